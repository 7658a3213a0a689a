import PyProof.Rows.All
import Wide.All
import OpenK.AllK
import Wide.FinOn
import PyProof.EqAt
import PyProof.EqKinds
import PyProof.TupleCall
import KE.BitLaws
import Open.SpecLaws
import KE.OsHead
import KE.OsGo
import LsWale
import PySem.Challenge.RW_waletexts_s02_print_form
section
set_option Elab.async false
set_option linter.all false
set_option maxRecDepth 100000
namespace L2
open PySem PySem.Spec PyProof.Rows
abbrev Key:=Sum Int Str
def mM:Key->Value->Bool
 | .inl k,v=>Value.isInt k v
 | .inr x,v=>Value.isStrOf x v
def dw(w:World):Key->Int
 | .inl k=>hashInt k
 | .inr x=>hashStr w x
theorem iJ:∀{k:Key}{v:Value},mM k v=true->(∃i t,k=Sum.inl i/\v=Value.int i t)\/(∃x t,k=Sum.inr x/\v=Value.str x t)
 | .inl i,v,h=>by
  obtain⟨t,e⟩:=Value.isInt_shape (k:=i) (v:=v) h
  exact .inl ⟨i,t,rfl,e⟩
 | .inr x,v,h=>by
  obtain⟨t,e⟩:=Value.isStrOf_shape (x:=x) (v:=v) h
  exact .inr ⟨x,t,rfl,e⟩
theorem Nv(i:Int)(t:Tok):mM (.inl i) (.int i t)=true:=by simp[mM,Value.isInt]
theorem Pr(x:Str)(t:Tok):mM (.inr x) (.str x t)=true:=by simp[mM,Value.isStrOf]
theorem KA(a b:Int):decide ((Sum.inl a:Key)=Sum.inl b)=(a==b):=by
 by_cases e:a=b
 ·subst e;simp
 ·have h:¬(Sum.inl a:Key)=Sum.inl b:=fun q=>e (Sum.inl.inj q)
  rw[decide_eq_false h]
  exact(beq_eq_false_iff_ne.mpr e).symm
theorem Jm(a b:Str):decide ((Sum.inr a:Key)=Sum.inr b)=decide (a=b):=by
 by_cases e:a=b
 ·subst e;simp
 ·have h:¬(Sum.inr a:Key)=Sum.inr b:=fun q=>e (Sum.inr.inj q)
  rw[decide_eq_false h,decide_eq_false e]
theorem M3(a:Int)(b:Str):decide ((Sum.inl a:Key)=Sum.inr b)=false:=decide_eq_false (fun q=>nomatch q)
theorem O3(a:Str)(b:Int):decide ((Sum.inr a:Key)=Sum.inl b)=false:=decide_eq_false (fun q=>nomatch q)
def eK(prog:Program)(w:World):PySem.KeyKind prog w Key where
 is:=mM
 hash:=dw w
 inj:=fun v a b ha hb=>by
  rcases iJ ha with ⟨i,t,rfl,rfl⟩|⟨x,t,rfl,rfl⟩
  ·rcases iJ hb with ⟨j,u,rfl,e⟩|⟨y,u,rfl,e⟩
   ·injection e with e1 _;rw[e1]
   ·exact nomatch e
  ·rcases iJ hb with ⟨j,u,rfl,e⟩|⟨y,u,rfl,e⟩
   ·exact nomatch e
   ·injection e with e1 _;rw[e1]
 byValue:=fun k v h=>by
  rcases iJ h with ⟨i,t,rfl,rfl⟩|⟨x,t,rfl,rfl⟩<;>rfl
 pyHash:=fun hv h=>by
  rcases iJ hv with ⟨i,t,rfl,rfl⟩|⟨x,t,rfl,rfl⟩
  ·exact wpAny_pyHash_int h
  ·exact wpAny_pyHash_str h
 eqBool:=fun hu hv h=>by
  rcases iJ hu with ⟨i,t,rfl,rfl⟩|⟨x,t,rfl,rfl⟩
  ·rcases iJ hv with ⟨j,u,rfl,rfl⟩|⟨y,u,rfl,rfl⟩
   ·rw[KA]at h;exact wpAny_eqBool_int h
   ·rw[M3]at h;exact SeqAt.EqAt.int_str i t y u _ _ _ _ h
  ·rcases iJ hv with ⟨j,u,rfl,rfl⟩|⟨y,u,rfl,rfl⟩
   ·rw[O3]at h;exact SeqAt.EqAt.str_int x t j u _ _ _ _ h
   ·rw[Jm]at h;exact wpAny_eqBool_str h
 «strs»:=fun k x t v h=>by
  rcases iJ h with ⟨i,u,rfl,e⟩|⟨y,u,rfl,e⟩
  ·exact nomatch e
  ·injection e with e1 _
   subst e1
   cases v<;>rfl
theorem P1(prog:Program)(w:World)(i:Int)(t:Tok):(eK prog w).is (.inl i) (.int i t)=true:=Nv i t
theorem Iy(prog:Program)(w:World)(x:Str)(t:Tok):(eK prog w).is (.inr x) (.str x t)=true:=Pr x t
end L2
namespace L2
open PySem PySem.Spec PyProof.Rows
inductive V where
 |ax|bl (b:Bool)|int (i:Int)|str (x:Str)|eN (b:Array UInt8)|ku (b:UInt64)|ref (a:Addr)|ty (n:String)
 deriving DecidableEq
def RelV:V->Value->Prop
 | .ax,u=>u=Value.none
 | .bl b,u=>u=Value.bool b
 | .int i,u=>∃t,u=Value.int i t
 | .str x,u=>∃t,u=Value.str x t
 | .eN b,u=>∃t,u=Value.bytes b t
 | .ku b,u=>∃t,u=Value.float b t
 | .ref a,u=>u=Value.ref a
 | .ty n,u=>u=Value.type n
abbrev aT:List V->List Value->Prop:=Paired RelV
theorem aT.length{xs:List V}{us:List Value}(r:aT xs us):xs.length=us.length:=Paired.length r
theorem aT.get:∀{xs:List V}{us:List Value}{i:Nat}{x:V},aT xs us->xs[i]? =some x->∃u,us[i]? =some u/\RelV x u
 |_,_,_,_,.nil,e=>by simp at e
 |_,_,0,_,.cons r _,e=>by simp at e;subst e;exact⟨_,rfl,r⟩
 |_,_,i+1,x,.cons _ t,e=>by
  obtain⟨u,h1,h2⟩:=aT.get (i:=i) (x:=x) t (by simpa using e)
  exact⟨u,by simpa using h1,h2⟩
theorem aT.append:∀{xs ys:List V}{us ws:List Value},aT xs us->aT ys ws->aT (xs++ys) (us++ws)
 |_,_,_,_,.nil,s=>s
 |_,_,_,_,.cons r t,s=>.cons r (aT.append t s)
theorem aT.take:∀{xs:List V}{us:List Value}(n:Nat),aT xs us->aT (xs.take n) (us.take n)
 |_,_,0,_=>.nil
 |_,_,_+1,.nil=>.nil
 |_,_,n+1,.cons r t=>.cons r (aT.take n t)
theorem aT.drop:∀{xs:List V}{us:List Value}(n:Nat),aT xs us->aT (xs.drop n) (us.drop n)
 |_,_,0,r=>r
 |_,_,_+1,.nil=>.nil
 |_,_,n+1,.cons _ t=>aT.drop n t
def dk:Option V->Option Value->Prop
 |some v,some u=>RelV v u
 |none,none=>True
 |_,_=>False
def KV{κ:Type}:List (κ×V)->List (κ×Value)->Prop:=Paired fun(p:κ×V)(q:κ×Value)=>p.1=q.1/\RelV p.2 q.2
def kV:Key->V
 | .inl i=>.int i
 | .inr x=>.str x
inductive HO where
 |lst (xs:List V)
 |tup (xs:List V)
 |dK (kvs:List (Key×V))|dT (kvs:List (List Key×V))
 |set (S:Int->Bool) (n:Nat)
 |ins (C dx:Addr) (fs:List (Str×V))
 |own (x:Addr)
 |xd (fs:List (Str×V))
 |met (f x:Addr)
 |zw (lo hi:Int)
 |de (o:Obj) (u:HO)
 |lY (ps:Array Value)
 |ext (φ:Heap->Prop)
abbrev Hp:=Addr->Option HO
def upd(H:Hp)(a:Addr)(o:HO):Hp:=fun b=>if b=a then some o else H b
theorem aw{H:Hp}{a:Addr}{o:HO}:upd H a o a=some o:=by unfold upd;rw[if_pos rfl]
theorem ak{H:Hp}{a b:Addr}{o:HO}(h:b≠a):upd H a o b=H b:=by unfold upd;rw[if_neg h]
theorem bQ{H:Hp}{a b:Addr}{o u:HO}(h:H a=some o)(h':H b=some u)(d:o≠u):a≠b:=by
 intro e;subst e;rw[h]at h';exact d (Option.some.inj h')
theorem d7{H:Hp}{a b:Addr}{o:HO}(h:H a=some o)(h':H b=none):a≠b:=by
 intro e;subst e;rw[h]at h';cases h'
section
variable (P:Program)(w:World)
def cu(H:Hp)(h:Heap)(a:Addr):HO->Prop
 | .lst xs=>xs.length<=sizeLine/\∃(its:List Value)(n:Nat),aT xs its/\h.get? a=some {cls:=.type "list",data:=.seq its.toArray n}
 | .tup xs=>xs.length<=sizeLine/\∃its:List Value,aT xs its/\IsTup h a its.toArray
 | .dK kvs=>kvs.length<=sizeLine/\(a==sysModules)=false/\∃vs,KV kvs vs/\h.DictOf (eK P w) a vs
 | .dT kvs=>kvs.length<=sizeLine/\(a==sysModules)=false/\∃xs:List (List Key×Addr×Value),
   Paired (fun(p:List Key×V)(q:List Key×Addr×Value)=>p.1=q.1/\H q.2.1=some (.tup (p.1.map kV))/\RelV p.2 q.2.2) kvs xs/\
   ∃o es ep,h.get? a=some o/\o.ExactDict/\o.data=.dict es ep/\es.toList=xs.map (entryOfKey (tupleKind (eK P w)))/\(xs.map (·.1)).Nodup
 | .set S n=>h.SetOf (intKind P w) a S n
 | .ins C dx fs=>H dx=some (.own a)/\fs.length<=1000/\dx≠a/\h.get? a=some (PySem.W.instObj C dx)/\
   ∃mA,h.Ns1 dx mA/\(∀f,dk (fs.lookup f) (mA f))/\PySem.Within mA (fs.map (·.1))
 | .own _=>∃o,h.get? a=some o
 | .xd fs=>∃mA,h.Ns1 a mA/\∀f,dk (fs.lookup f) (mA f)
 | .zw lo hi=>∃t u v,h.get? a=some {cls:=.type "range",data:=.fields #[.int lo t,.int hi u,.int 1 v]}
 | .de o u=>h.get? a=some o/\cu H h a u
 | .lY ps=>h.get? a=some {cls:=.none,data:=.fields ps}
 | .met f x=>h.get? a=some (PySem.W.methodObj (.ref f) (.ref x))
 | .ext φ=>φ h/\(∃o,h.get? a=some o)/\∀h1 h2:Heap,φ h1->(∀o,h1.get? a=some o->h2.get? a=some o)->φ h2
def bC(H:Hp)(h:Heap):Prop:=∀a o,H a=some o->cu P w H h a o
end
section
variable {P:Program}{w:World}{H H':Hp}{h h':Heap}{a:Addr}{o:HO}
theorem cu.lt(x:cu P w H h a o):a<h.objs.size:=by
 cases o with
 |lst xs=>obtain⟨_,_,_,_,e⟩:=x;exact Heap.lt_size e
 |tup xs=>obtain⟨_,_,_,p⟩:=x;exact p.lt
 |dK kvs=>obtain⟨_,_,_,_,o,_,_,e,_⟩:=x;exact Heap.lt_size e
 |dT kvs=>obtain⟨_,_,_,_,o,_,_,e,_⟩:=x;exact Heap.lt_size e
 |set S n=>obtain⟨o,_,_,_,e,_⟩:=x;exact Heap.lt_size e
 |ins C dx fs=>obtain⟨_,_,_,e,_⟩:=x;exact Heap.lt_size e
 |own y=>obtain⟨_,e⟩:=x;exact Heap.lt_size e
 |xd fs=>obtain⟨_,⟨_,_,_,e,_⟩,_⟩:=x;exact Heap.lt_size e
 |zw lo hi=>obtain⟨_,_,_,e⟩:=x;exact Heap.lt_size e
 |de ob u=>obtain⟨e,_⟩:=x;exact Heap.lt_size e
 |lY ps=>exact Heap.lt_size (show h.get? a=some _ from x)
 |met f y=>exact Heap.lt_size (show h.get? a=some _ from x)
 |ext φ=>obtain⟨_,⟨_,e⟩,_⟩:=x;exact Heap.lt_size e
theorem Paired.zo{α β:Type}{F G:α->β->Prop}:∀{l₁:List α}{l₂:List β},Paired F l₁ l₂->(∀a b,F a b->G a b)->Paired G l₁ l₂
 |_,_,.nil,_=>.nil
 |_,_,.cons r t,f=>.cons (f _ _ r) (Paired.zo t f)
theorem cu.jh(x:cu P w H h a o)(k:∀b u,(b=a\/H b=some (.own a))->h.get? b=some u->h'.get? b=some u)
  (ho:∀b,H b=some (.own a)->H' b=some (.own a)) (ht:∀b xs,H b=some (.tup xs)->H' b=some (.tup xs)):cu P w H' h' a o:=by
 induction o with
 |lst xs=>obtain⟨z,its,n,r,e⟩:=x;exact⟨z,its,n,r,k _ _ (.inl rfl) e⟩
 |tup xs=>obtain⟨z,its,r,ob,e,c⟩:=x;exact⟨z,its,r,ob,k _ _ (.inl rfl) e,c⟩
 |dK kvs=>obtain⟨z,y,vs,r,ob,es,ep,e,c⟩:=x;exact⟨z,y,vs,r,ob,es,ep,k _ _ (.inl rfl) e,c⟩
 |dT kvs=>
  obtain⟨z,y,xs,r,ob,es,ep,e,c⟩:=x
  exact⟨z,y,xs,Paired.zo r fun p q z=>⟨z.1,ht _ _ z.2.1,z.2.2⟩,ob,es,ep,k _ _ (.inl rfl) e,c⟩
 |set S n=>obtain⟨ob,es,ep,t,e,c⟩:=x;exact⟨ob,es,ep,t,k _ _ (.inl rfl) e,c⟩
 |ins C dx fs=>
  obtain⟨d,z,ne,e,mA,⟨od,es,ep,e2,c⟩,r⟩:=x
  exact⟨ho _ d,z,ne,k _ _ (.inl rfl) e,mA,⟨od,es,ep,k _ _ (.inr d) e2,c⟩,r⟩
 |own y=>obtain⟨ob,e⟩:=x;exact⟨ob,k _ _ (.inl rfl) e⟩
 |xd fs=>obtain⟨mA,⟨od,es,ep,e,c⟩,r⟩:=x;exact⟨mA,⟨od,es,ep,k _ _ (.inl rfl) e,c⟩,r⟩
 |zw lo hi=>obtain⟨t,u,v,e⟩:=x;exact⟨t,u,v,k _ _ (.inl rfl) e⟩
 |de ob u ih=>obtain⟨e,q⟩:=x;exact⟨k _ _ (.inl rfl) e,ih q⟩
 |lY ps=>
  have e:h.get? a=some {cls:=.none,data:=.fields ps}:=x
  show h'.get? a=some {cls:=.none,data:=.fields ps}
  exact k a _ (.inl rfl) e
 |met f y=>
  have e:h.get? a=some (PySem.W.methodObj (.ref f) (.ref y)):=x
  show h'.get? a=some (PySem.W.methodObj (.ref f) (.ref y))
  exact k a _ (.inl rfl) e
 |ext φ=>obtain⟨p,⟨o,e⟩,st⟩:=x;exact⟨st _ _ p fun o q=>k _ _ (.inl rfl) q,⟨o,k _ _ (.inl rfl) e⟩,st⟩
theorem bC.lt(x:bC P w H h)(e:H a=some o):a<h.objs.size:=(x a o e).lt
theorem bC.fresh(x:bC P w H h)(e:h.objs.size<=a):H a=none:=by
 cases q:H a with
 |none=>rfl
 |some u=>exact absurd (Nat.lt_of_lt_of_le (x.lt q) e) (Nat.lt_irrefl _)
theorem bC.kept(x:bC P w H h)(k:∀b u,h.get? b=some u->h'.get? b=some u):bC P w H h':=fun a o e=>
 (x a o e).jh (fun b u _ q=>k b u q) (fun _ q=>q) fun _ _ q=>q
theorem bC.laid(x:bC P w H h)(k:∀b u,h.get? b=some u->h'.get? b=some u)(hp:h.objs.size<=a)(new:cu P w (upd H a o) h' a o):bC P w (upd H a o) h':=fun b u e=>by
 have hn:=x.fresh hp
 by_cases hb:b=a
 ·subst hb;rw[aw]at e;cases e;exact new
 ·rw[ak hb]at e
  exact(x b u e).jh (fun c v _ q=>k c v q) (fun c q=>by rw[ak (d7 q hn)];exact q) fun c xs q=>by rw[ak (d7 q hn)];exact q
end
def Rd(H:Hp)(a:Addr)(u:HO):Prop:=H a=some u\/∃o,H a=some (.de o u)
theorem Rd.ok{P:Program}{w:World}{H:Hp}{h:Heap}{a:Addr}{u:HO}(r:Rd H a u)(x:bC P w H h):cu P w H h a u:=by
 rcases r with r|⟨o,r⟩
 ·exact x a u r
 ·obtain⟨_,q⟩:=x a _ r
  exact q
def rj:Option HO->Prop
 |some (.lst _)=>True
 |some (.dK _)=>True
 |some (.dT _)=>True
 |some (.set _ _)=>True
 |some (.ins _ _ _)=>True
 |some (.ext _)=>True
 |_=>False
section
variable {P:Program}{w:World}{H:Hp}{h h':Heap}{x e:Addr}{o':HO}
theorem bC.write(ok:bC P w H h)(mu:rj (H x))(he:e=x\/H e=some (.own x))(k:∀b u,b≠e->h.get? b=some u->h'.get? b=some u)(heo:∃u,h'.get? e=some u)
  (new:cu P w (upd H x o') h' x o'):bC P w (upd H x o') h':=fun b u q=>by
 have nown:∀c y,H c=some (.own y)->c≠x:=fun c y r z=>by subst z;rw[r]at mu;exact mu
 have ntup:∀c xs,H c=some (.tup xs)->c≠x:=fun c xs r z=>by subst z;rw[r]at mu;exact mu
 by_cases hb:b=x
 ·subst hb;rw[aw]at q;cases q;exact new
 ·rw[ak hb]at q
  by_cases hbe:b=e
  ·have q':H b=some (.own x):=by
    rcases he with z|z
    ·exact absurd (hbe.trans z) hb
    ·rw[hbe];exact z
   rw[q]at q';cases q'
   obtain⟨v,hv⟩:=heo
   exact⟨v,by rw[hbe];exact hv⟩
  ·refine(ok b u q).jh (fun c v hc r=>k c v ?_ r) (fun c r=>by rw[ak (nown c b r)];exact r) fun c xs r=>by rw[ak (ntup c xs r)];exact r
   rcases hc with rfl|hc
   ·exact hbe
   ·rintro rfl
    rcases he with z|z
    ·exact nown c b hc z
    ·rw[hc]at z;cases z;exact hb rfl
end
structure Un(fs ex:List Addr)(H H':Hp)(h h':Heap):Prop where
 keep:∀b o,h.get? b=some o->H b=none->b∉fs->b∉ex->h'.get? b=some o
 slot:∀b o,h.get? b=some o->H b=none->b∈fs->b∉ex->∃sl,h'.get? b=some {o with slots:=sl}
 free:∀b o,h.get? b=some o->H b=none->b∉ex->H' b=none
 there:∀b o,h.get? b=some o->b∉ex->∃o',h'.get? b=some o'
 gW:∀b xs,H b=some (.tup xs)->H' b=some (.tup xs)
 gq:∀b o u,H b=some (.de o u)->H' b=some (.de o u)
 gJ:∀b ps,H b=some (.lY ps)->∃more,H' b=some (.lY (ps++more))
section
variable {fs fs' ex ex':List Addr}{H H1 H2:Hp}{h h1 h2 h':Heap}{a x e:Addr}{o:HO}
theorem Un.any(u:Un fs ex H H1 h h1){b:Addr}{ob:Obj}(q:h.get? b=some ob)(n:H b=none)(hx:b∉ex):∃sl,h1.get? b=some {ob with slots:=sl}:=by
 by_cases hb:b∈fs
 ·exact u.slot b ob q n hb hx
 ·exact⟨ob.slots,u.keep b ob q n hb hx⟩
theorem Un.kept(k:∀b u,h.get? b=some u->h'.get? b=some u):Un fs ex H H h h':=
 ⟨fun b ob q _ _ _=>k b ob q,fun b ob q _ _ _=>⟨ob.slots,k b ob q⟩,fun _ _ _ n _=>n,fun b ob q _=>⟨ob,k b ob q⟩,fun _ _ q=>q,fun _ _ _ q=>q,fun _ ps q=>⟨#[],by rw[q];simp⟩⟩
theorem Un.refl:Un fs ex H H h h:=Un.kept fun _ _ q=>q
theorem Un.laid(k:∀b u,h.get? b=some u->h'.get? b=some u)(hp:h.objs.size<=a)(hn:H a=none):Un fs ex H (upd H a o) h h' where
 keep:=fun b u q _ _ _=>k b u q
 slot:=fun b u q _ _ _=>⟨u.slots,k b u q⟩
 free:=fun b u q n _=>by rw[ak (Nat.ne_of_lt (Nat.lt_of_lt_of_le (Heap.lt_size q) hp))];exact n
 there:=fun b u q _=>⟨u,k b u q⟩
 gW:=fun b xs q=>by rw[ak (d7 q hn)];exact q
 gq:=fun b u xs q=>by rw[ak (d7 q hn)];exact q
 gJ:=fun b ps q=>⟨#[],by rw[ak (d7 q hn),q];simp⟩
theorem Un.write(mu:rj (H x))(he:e=x\/H e=some (.own x))(k:∀b u,b≠e->h.get? b=some u->h'.get? b=some u)(heo:∃u,h'.get? e=some u):Un fs ex H (upd H x o) h h':=by
 have hx:∀b,H b=none->b≠x:=fun b n z=>by subst z;rw[n]at mu;exact mu
 have hb:∀b,H b=none->b≠e:=fun b n z=>by
  subst z
  rcases he with r|r
  ·exact hx b n r
  ·rw[n]at r;cases r
 have hm:∀b u,H b=some u->¬rj (some u)->b≠x:=fun b u q nm z=>by subst z;rw[q]at mu;exact nm mu
 refine⟨fun b u q n _ _=>k b u (hb b n) q,fun b u q n _ _=>⟨u.slots,k b u (hb b n) q⟩,fun b u q n _=>by rw[ak (hx b n)];exact n,fun b u q _=>?_,
  fun b xs q=>by rw[ak (hm b _ q fun z=>z)];exact q,fun b u xs q=>by rw[ak (hm b _ q fun z=>z)];exact q,fun b ps q=>⟨#[],by rw[ak (hm b _ q fun z=>z),q];simp⟩⟩
 by_cases hbe:b=e
 ·subst hbe;exact heo
 ·exact⟨u,k b u hbe q⟩
end
def um(h:Heap)(H:Hp):List Addr:=(List.range h.objs.size).filter fun a=>(H a).isSome
def ja(h:Heap)(H:Hp):Heap:=PySem.W.hideAll h (um h H)
theorem Pt(h:Heap)(H:Hp):(ja h H).objs.size=h.objs.size:=PySem.W.hideAll_size _ _
theorem LN{h:Heap}{H:Hp}{b:Addr}{o:Obj}(e:h.get? b=some o)(n:H b=none):(ja h H).get? b=some o:=
 PySem.W.hideAll_get _ e fun hm=>by
  have q:(H b).isSome=true:=(List.mem_filter.mp hm).2
  rw[n]at q;simp at q
theorem HS{h:Heap}{H:Hp}{b:Addr}{o:Obj}(e:(ja h H).get? b=some o):h.get? b=some o/\H b=none:=by
 have e':h.get? b=some o:=PySem.W.of_hideAll (um h H) e
 refine⟨e',?_⟩
 cases q:H b with
 |none=>rfl
 |some x=>
  have hm:b∈um h H:=List.mem_filter.mpr ⟨List.mem_range.mpr (Heap.lt_size e'),by simp[q]⟩
  have z:(ja h H).get? b=none:=PySem.W.hideAll_none (um h H) hm
  rw[z]at e;cases e
end L2
namespace L2
open PySem PySem.Spec PyProof.Rows
structure Mod(K:PySem.W.Frag)(mg:Str->Option Value)(base:Heap):Prop where
 iW:K.In base
 glob:base.Ns mainGlobals mg
 blt:∃mb,base.Ns builtinsNs mb/\∀x:Str,x≠"__name__"->mb x=bootBuiltins x
 nolimit:base.NoLimit
structure Cx where
 prog:Program
 w:World
 K:PySem.W.Frag
 mg:Str->Option Value
 base:Heap
 A:Around
 N:List Str
 b8:Shared
 m8:Hp
 env:Env
 outer:List Env
 stack:List Env
 ex:List Addr
 fn:Str->Bool
 calm:Bool
 pn:List (Addr×Obj)
 xe:Value->Shared->Prop
def cv(l:List Env):List Addr:=l.filterMap (·.frame)
abbrev Cx.fs(X:Cx):List Addr:=cv X.outer
def mW(sc:Scope)(x:Str):Prop:=sc.names.lookup x=some .local\/sc.names.lookup x=some .cell\/sc.names.lookup x=some .free
def Loc(sc:Scope)(x:Str):Prop:=sc.names.lookup x=some .local\/sc.names.lookup x=some .cell
def Look(env:Env)(h:Heap)(m:Str->Option Value)(x:Str)(u:Value):Prop:=
 (env.kindOf x=some .local/\m x=some u)\/((env.kindOf x=some .cell\/env.kindOf x=some .free)/\∃c,env.cells.lookup x=some c/\h.IsCell c (some u))
structure Cx.Ok(X:Cx):Prop where
 mod:Mod X.K X.mg X.base
 kind:X.env.scope.kind=.function
 glob:X.env.globals=mainGlobals
 blt:X.env.builtins=builtinsNs
 above:X.b8.heap.objs.size<=X.env.locals
 inj:∀x y c,X.env.cells.lookup x=some c->X.env.cells.lookup y=some c->x=y
 has:∀x,(X.env.kindOf x=some .cell\/X.env.kindOf x=some .free)->∃c,X.env.cells.lookup x=some c
 jl:∀x c,X.fn x=true->X.env.cells.lookup x=some c->X.b8.heap.objs.size<=c
 hd:X.calm=true->X.A.handled=none
 frames:X.A.frames=some X.stack
 jj:X.stack=X.outer\/(X.stack=X.env::X.outer/\X.env.frame=some X.env.locals)
 jJ:∀b∈X.ex,b≠X.env.locals/\∀x c,X.env.cells.lookup x=some c->c≠b
 bs:∀b o,X.base.get? b=some o->X.b8.heap.get? b=some o/\X.m8 b=none
 fA:X.base.objs.size<=X.b8.heap.objs.size
 iR:∀b o,X.base.get? b=some o->b∉X.ex
 iP:∀b∈X.ex,b∉X.fs
 dX:X.b8.heap.FunFrames X.base X.outer
 fW:∀b∈X.fs,X.m8 b=none
structure Inv(X:Cx)(pins:List (Addr×Obj))(σ:List (Option V))(H:Hp)(s:Shared):Prop where
 ok:X.Ok
 os:s.os=X.b8.os
 bare:AllBare s.gens
 base:Un X.fs X.ex X.m8 H X.b8.heap s.heap
 loc:∃m,s.heap.Ns X.env.locals m/\∀(i:Nat)(x:Str)(v:V),X.N[i]? =some x->σ[i]? =some (some v)->mW X.env.scope x->∃u,RelV v u/\Look X.env s.heap m x u
 cell:∀x c,X.env.cells.lookup x=some c->∃v,s.heap.IsCell c v
 free:H X.env.locals=none
 dQ:∀x c,X.env.cells.lookup x=some c->H c=none
 pin:∀p∈X.pn++pins,s.heap.get? p.1=some p.2/\H p.1=none/\p.1≠X.env.locals/\p.1∉X.fs/\∀v,p.2.data≠ .cell v
 aA:bC X.prog X.w H s.heap
 len:σ.length=X.N.length
section
variable {X:Cx}{pins:List (Addr×Obj)}{σ:List (Option V)}{H H':Hp}{s:Shared}{h':Heap}
theorem Cx.Ok.P8(ok:X.Ok){b:Addr}{o:Obj}(e:X.base.get? b=some o):b∉X.fs:=fun hb=>by
 have:=(ok.dX.mem hb).1
 rw[e]at this;cases this
theorem Inv.bs(I:Inv X pins σ H s):∀b o,X.base.get? b=some o->s.heap.get? b=some o/\H b=none:=fun b o e=>
 ⟨I.base.keep b o (I.ok.bs b o e).1 (I.ok.bs b o e).2 (I.ok.P8 e) (I.ok.iR b o e),I.base.free b o (I.ok.bs b o e).1 (I.ok.bs b o e).2 (I.ok.iR b o e)⟩
theorem Inv.bk(I:Inv X pins σ H s):∀b o,X.base.get? b=some o->s.heap.get? b=some o:=fun b o e=>(I.bs b o e).1
theorem Inv.mod(I:Inv X pins σ H s):Mod X.K X.mg X.base:=I.ok.mod
theorem Inv.bp(I:Inv X pins σ H s):X.K.In s.heap:=I.ok.mod.iW.keeps I.bk
theorem Inv.lt(I:Inv X pins σ H s):X.env.locals<s.heap.objs.size:=let⟨_,hn,_⟩:=I.loc;hn.lt
theorem Inv.sz(I:Inv X pins σ H s):X.b8.heap.objs.size<=s.heap.objs.size:=Nat.le_trans I.ok.above (Nat.le_of_lt I.lt)
theorem Inv.MY(I:Inv X pins σ H s){a:Addr}(h:s.heap.objs.size<=a):a∉X.fs:=fun hb=>by
 obtain⟨_,o,ho,_⟩:=I.ok.dX.mem hb
 exact absurd (Nat.lt_of_lt_of_le (Heap.lt_size ho) (Nat.le_trans I.sz h)) (Nat.lt_irrefl _)
theorem Inv.j7(I:Inv X pins σ H s):∀x c,X.env.cells.lookup x=some c->c≠X.env.locals:=fun x c e z=>by
 obtain⟨v,o,ho,hd⟩:=I.cell x c e
 obtain⟨m,⟨o',es,ep,ho',hd',_⟩,_⟩:=I.loc
 rw[z,ho']at ho;cases ho;rw[hd']at hd;cases hd
theorem Inv.dX(I:Inv X pins σ H s):s.heap.FunFrames X.base X.outer:=by
 have all:∀(l:List Env),(∀b∈cv l,b∈X.fs)->X.b8.heap.FunFrames X.base l->s.heap.FunFrames X.base l:=by
  intro l
  induction l with
  |nil=>intro _ _;trivial
  |cons env r ih=>
   intro hs hl
   obtain⟨hk,⟨L,o,hf,hn,ho,hd⟩,hr⟩:=hl
   have hL:L∈X.fs:=hs L (by unfold cv;rw[List.filterMap_cons,hf];exact List.mem_cons_self)
   obtain⟨sl,e⟩:=I.base.slot L o ho (I.ok.fW L hL) hL fun z=>I.ok.iP L z hL
   exact⟨hk,⟨L,_,hf,hn,e,hd⟩,ih (fun b hb=>hs b (by unfold cv;rw[List.filterMap_cons,hf];exact List.mem_cons_of_mem _ hb)) hr⟩
 exact all X.outer (fun _ hb=>hb) I.ok.dX
theorem Inv.stack(I:Inv X pins σ H s):s.heap.FunFrames X.base X.stack:=by
 rcases I.ok.jj with e|⟨e,hf⟩
 ·rw[e];exact I.dX
 ·rw[e]
  obtain⟨m,hn,_⟩:=I.loc
  refine .cons (by rw[I.ok.kind];decide) hf hn ?_ I.dX
  exact Heap.get?_none_of_le (Nat.le_trans I.ok.fA I.ok.above)
theorem Inv.AL(I:Inv X pins σ H s):∀b∈cv X.stack,b∈X.env.locals::X.fs:=fun b hb=>by
 rcases I.ok.jj with e|⟨e,hf⟩
 ·rw[e]at hb;exact List.mem_cons_of_mem _ hb
 ·rw[e]at hb
  unfold cv at hb
  rw[List.filterMap_cons,hf]at hb
  exact hb
theorem Inv.vJ(I:Inv X pins σ H s):∀b∈cv X.stack,H b=none:=fun b hb=>by
 rcases List.mem_cons.mp (I.AL b hb)with e|hb
 ·rw[e];exact I.free
 ·obtain⟨_,o,ho,_⟩:=I.ok.dX.mem hb
  exact I.base.free b o ho (I.ok.fW b hb) fun z=>I.ok.iP b z hb
theorem Inv.step{g':Array GenState}{t':Nat}{d':Drawn}{ch:List Addr}(I:Inv X pins σ H s)
  (hch:∀b∈ch,(b∈X.ex\/X.b8.heap.objs.size<=b)/\b≠X.env.locals/\(∀x c,X.env.cells.lookup x=some c->c≠b)/\∀p∈X.pn++pins,p.1≠b)
  (keep:∀b o,b≠X.env.locals->b∉X.fs->b∉ch->s.heap.get? b=some o->H b=none->h'.get? b=some o)
  (slot:∀b o,b≠X.env.locals->b∈X.fs->b∉ch->s.heap.get? b=some o->H b=none->∃sl,h'.get? b=some {o with slots:=sl}) (free:∀b o,b∉ch->s.heap.get? b=some o->H b=none->H' b=none)
  (there:∀b o,b∉ch->s.heap.get? b=some o->∃o',h'.get? b=some o')
  (gW:∀b xs,H b=some (.tup xs)->H' b=some (.tup xs)) (gq:∀b o u,H b=some (.de o u)->H' b=some (.de o u)) (gJ:∀b ps,H b=some (.lY ps)->∃more,H' b=some (.lY (ps++more)))
  (ns:∀m,s.heap.Ns X.env.locals m->h'.Ns X.env.locals m) (aA:bC X.prog X.w H' h') (hg:AllBare g'):
  Inv X pins σ H' {s with heap:=h',gens:=g',drawn:=d',toks:=t'}:=by
 have neL:∀b o,X.b8.heap.get? b=some o->b≠X.env.locals:=fun b o e=>Nat.ne_of_lt (Nat.lt_of_lt_of_le (Heap.lt_size e) I.ok.above)
 have neC:∀b o,X.b8.heap.get? b=some o->b∉X.ex->b∉ch:=fun b o e hx hb=>by
  rcases(hch b hb).1 with z|z
  ·exact hx z
  ·exact absurd (Nat.lt_of_lt_of_le (Heap.lt_size e) z) (Nat.lt_irrefl _)
 have cellK:∀x c,X.env.cells.lookup x=some c->∀v,s.heap.IsCell c v->h'.IsCell c v:=fun x c e v⟨o,ho,hd⟩=>by
  have nch:c∉ch:=fun z=>(hch c z).2.2.1 x c e rfl
  by_cases hc:c∈X.fs
  ·obtain⟨sl,q⟩:=slot c o (I.j7 x c e) hc nch ho (I.dQ x c e)
   exact⟨_,q,hd⟩
  ·exact⟨o,keep c o (I.j7 x c e) hc nch ho (I.dQ x c e),hd⟩
 refine⟨I.ok,I.os,hg,⟨fun b o e n hb hx=>?_,fun b o e n hb hx=>?_,fun b o e n hx=>?_,fun b o e hx=>?_,fun b xs e=>gW b xs (I.base.gW b xs e),fun b o xs e=>gq b o xs (I.base.gq b o xs e),fun b ps e=>?_⟩,?_,fun x c e=>?_,?_,fun x c e=>?_,fun p hp=>?_,aA,I.len⟩
 ·exact keep b o (neL b o e) hb (neC b o e hx) (I.base.keep b o e n hb hx) (I.base.free b o e n hx)
 ·obtain⟨sl,e1⟩:=I.base.slot b o e n hb hx
  obtain⟨sl',e2⟩:=slot b _ (neL b o e) hb (neC b o e hx) e1 (I.base.free b o e n hx)
  exact⟨sl',e2⟩
 ·obtain⟨o',e1⟩:=I.base.there b o e hx
  exact free b o' (neC b o e hx) e1 (I.base.free b o e n hx)
 ·obtain⟨o',e1⟩:=I.base.there b o e hx
  exact there b o' (neC b o e hx) e1
 ·obtain⟨m1,e1⟩:=I.base.gJ b ps e
  obtain⟨m2,e2⟩:=gJ b _ e1
  exact⟨m1++m2,by rw[e2,Array.append_assoc]⟩
 ·obtain⟨m,hn,hl⟩:=I.loc
  refine⟨m,ns m hn,fun i x v e1 e2 e3=>?_⟩
  obtain⟨u,r,l⟩:=hl i x v e1 e2 e3
  refine⟨u,r,?_⟩
  rcases l with l|⟨k,c,e,z⟩
  ·exact .inl l
  ·exact .inr ⟨k,c,e,cellK x c e _ z⟩
 ·obtain⟨v,z⟩:=I.cell x c e
  exact⟨v,cellK x c e v z⟩
 ·obtain⟨m,⟨o,_,_,ho,_⟩,_⟩:=I.loc
  exact free _ o (fun z=>(hch _ z).2.1 rfl) ho I.free
 ·obtain⟨v,o,ho,hd⟩:=I.cell x c e
  exact free c o (fun z=>(hch c z).2.2.1 x c e rfl) ho (I.dQ x c e)
 ·obtain⟨e,n,ne,nf,d⟩:=I.pin p hp
  have nch:p.1∉ch:=fun z=>(hch p.1 z).2.2.2 p hp rfl
  exact⟨keep p.1 p.2 ne nf nch e n,free p.1 p.2 nch e n,ne,nf,d⟩
theorem Inv.un{t':Nat}(I:Inv X pins σ H s)(u:Un X.fs [] H H' s.heap h')(aA:bC X.prog X.w H' h'):Inv X pins σ H' {s with heap:=h',toks:=t'}:=by
 obtain⟨m,⟨o,es,ep,ho,r⟩,_⟩:=id I.loc
 obtain⟨sl,hL⟩:=u.any ho I.free (by simp)
 exact I.step (g':=s.gens) (d':=s.drawn) (ch:=[]) (fun _ z=>nomatch z) (fun b o _ hb _ e n=>u.keep b o e n hb (by simp)) (fun b o _ hb _ e n=>u.slot b o e n hb (by simp)) (fun b o _ e n=>u.free b o e n (by simp)) (fun b o _ e=>u.there b o e (by simp)) u.gW u.gq u.gJ (fun m' hm=>by
  obtain⟨o',es',ep',ho',r'⟩:=hm
  rw[ho]at ho';cases ho'
  exact⟨_,es',ep',hL,r'⟩) aA I.bare
theorem Inv.call{g':Array GenState}{t':Nat}{d':Drawn}{ch:List Addr}(I:Inv X pins σ H s)(u:Un (cv X.stack) ch H H' s.heap h')(aA:bC X.prog X.w H' h')(hg:AllBare g')
  (hch:∀b∈ch,(b∈X.ex\/X.b8.heap.objs.size<=b)/\b≠X.env.locals/\(∀x c,X.env.cells.lookup x=some c->c≠b)/\∀p∈X.pn++pins,p.1≠b):
  Inv X pins σ H' {s with heap:=h',gens:=g',drawn:=d',toks:=t'}:=by
 obtain⟨m,⟨o,es,ep,ho,r⟩,_⟩:=id I.loc
 obtain⟨sl,hL⟩:=u.any ho I.free fun z=>(hch _ z).2.1 rfl
 exact I.step (ch:=ch) hch (fun b o hL hb hc e n=>u.keep b o e n (fun z=>(List.mem_cons.mp (I.AL b z)).elim hL hb) hc) (fun b o _ _ hc e n=>u.any e n hc) (fun b o hc e n=>u.free b o e n hc) (fun b o hc e=>u.there b o e hc) u.gW u.gq u.gJ (fun m' hm=>by
  obtain⟨o',es',ep',ho',r'⟩:=hm
  rw[ho]at ho';cases ho'
  exact⟨_,es',ep',hL,r'⟩) aA hg
theorem Inv.turned{t':Nat}{it:Addr}(I:Inv X pins σ H s)(k:∀b o,b≠it->s.heap.get? b=some o->h'.get? b=some o)(hn:H it=none)(hL:it≠X.env.locals)
  (h1:it∈X.ex\/X.b8.heap.objs.size<=it) (h2:∀x c,X.env.cells.lookup x=some c->c≠it) (h3:∀p∈X.pn++pins,p.1≠it):Inv X pins σ H {s with heap:=h',toks:=t'}:=by
 have nit:∀b u,H b=some u->b≠it:=fun b u e z=>by rw[z,hn]at e;cases e
 refine I.step (g':=s.gens) (d':=s.drawn) (ch:=[it]) (fun b hb=>?_) (fun b o _ _ hc e _=>k b o (fun z=>hc (by simp[z])) e) (fun b o _ _ hc e _=>⟨o.slots,k b o (fun z=>hc (by simp[z])) e⟩) (fun _ _ _ _ n=>n)
  (fun b o hc e=>⟨o,k b o (fun z=>hc (by simp[z])) e⟩) (fun _ _ e=>e) (fun _ _ _ e=>e) (fun b ps e=>⟨#[],by rw[e];simp⟩) (fun m hm=>?_) (fun b u e=>?_) I.bare
 ·have e:b=it:=by simpa using hb
  subst e
  exact⟨h1,hL,h2,h3⟩
 ·obtain⟨o,es,ep,ho,r⟩:=hm
  exact⟨o,es,ep,k _ o (Ne.symm hL) ho,r⟩
 ·refine(I.aA b u e).jh (fun c v hc q=>k c v ?_ q) (fun _ q=>q) fun _ _ q=>q
  rcases hc with z|z
  ·rw[z];exact nit b u e
  ·exact nit c _ z
theorem Inv.tok(I:Inv X pins σ H s)(t:Nat):Inv X pins σ H {s with toks:=t}:=I.un (h':=s.heap) (t':=t) Un.refl I.aA
theorem Inv.kept{t':Nat}(I:Inv X pins σ H s)(k:∀b u,s.heap.get? b=some u->h'.get? b=some u):Inv X pins σ H {s with heap:=h',toks:=t'}:=I.un (Un.kept k) (I.aA.kept k)
theorem Inv.laid{a:Addr}{o:HO}{t':Nat}(I:Inv X pins σ H s)(k:∀b u,s.heap.get? b=some u->h'.get? b=some u)(hp:s.heap.objs.size<=a)(new:cu X.prog X.w (upd H a o) h' a o):
  Inv X pins σ (upd H a o) {s with heap:=h',toks:=t'}:=I.un (Un.laid k hp (I.aA.fresh hp)) (I.aA.laid k hp new)
theorem Inv.write{x e:Addr}{o:HO}{t':Nat}(I:Inv X pins σ H s)(mu:rj (H x))(he:e=x\/H e=some (.own x))(k:∀b u,b≠e->s.heap.get? b=some u->h'.get? b=some u)(heo:∃u,h'.get? e=some u)
  (new:cu X.prog X.w (upd H x o) h' x o):Inv X pins σ (upd H x o) {s with heap:=h',toks:=t'}:=I.un (Un.write mu he k heo) (I.aA.write mu he k heo new)
theorem Inv.weak{σ':List (Option V)}(I:Inv X pins σ H s)(hl:σ'.length=σ.length)(w:∀(i:Nat)v,σ'[i]? =some (some v)->σ[i]? =some (some v)):Inv X pins σ' H s:=
 ⟨I.ok,I.os,I.bare,I.base,let⟨m,hn,hl'⟩:=I.loc;⟨m,hn,fun i x v e1 e2 e3=>hl' i x v e1 (w i v e2) e3⟩,I.cell,I.free,I.dQ,I.pin,I.aA,hl.trans I.len⟩
theorem Inv.C4{pins':List (Addr×Obj)}(I:Inv X pins σ H s)(h:∀p∈pins',s.heap.get? p.1=some p.2/\H p.1=none/\p.1≠X.env.locals/\p.1∉X.fs/\∀v,p.2.data≠ .cell v):Inv X pins' σ H s:=
 ⟨I.ok,I.os,I.bare,I.base,I.loc,I.cell,I.free,I.dQ,fun p hp=>(List.mem_append.mp hp).elim (fun z=>I.pin p (List.mem_append_left _ z)) (h p),I.aA,I.len⟩
theorem Ay{N:List Str}(hN:N.Nodup){i j:Nat}{x:Str}(a:N[i]? =some x)(b:N[j]? =some x):i=j:=by
 obtain⟨h1,e1⟩:=List.getElem?_eq_some_iff.mp a
 obtain⟨h2,e2⟩:=List.getElem?_eq_some_iff.mp b
 exact(List.getElem_inj hN).mp (e1.trans e2.symm)
theorem Jb{M:Model}{A:Around}{E:Value->Shared->Prop}{i:Nat}{x:Str}{v:V}{u:Value}{Q:Unit->Shared->Prop}(I:Inv X pins σ H s)(hN:X.N.Nodup)(hi:X.N[i]? =some x)(hx:Loc X.env.scope x)(r:RelV v u)
  (h:∀s',Inv X pins (σ.set i (some v)) H s'->(∃a,Heap.SameBut a s.heap s'.heap/\(a=X.env.locals\/X.env.cells.lookup x=some a))->Q () s') (hf:X.fn x=true\/X.env.scope.names.lookup x=some .local:=by first|exact .inl rfl|exact .inr rfl|assumption):wpAny M A (storeName X.env x u) Q E s:=by
 obtain⟨m,hn,hl⟩:=id I.loc
 have hcls:(X.env.scope.kind== .class||(X.env.scope.kind== .module&&X.env.locals !=X.env.globals))=false:=by rw[I.ok.kind];rfl
 have hiσ:i<σ.length:=by rw[I.len];exact(List.getElem?_eq_some_iff.mp hi).1
 have j7:=I.j7
 have tracked:∀{a:Addr}{h':Heap},(∃o,s.heap.get? a=some o/\H a=none)->Heap.SameBut a s.heap h'->bC X.prog X.w H h':=fun{a h'}ha hs b ob e=>by
  obtain⟨_,_,hfree⟩:=ha
  refine(I.aA b ob e).jh (fun c w' hc q=>(hs.2 c ?_).trans q) (fun _ q=>q) fun _ _ q=>q
  rintro rfl
  rcases hc with rfl|hc
  ·rw[hfree]at e;cases e
  ·rw[hfree]at hc;cases hc
 rcases hx with hk|hk
 ·refine wpAny_storeName_local hk hn (fun h' hn' hs=>?_) hcls
  obtain⟨oL,_,_,hoL,_⟩:=id hn
  refine h _ ⟨I.ok,I.os,I.bare,⟨fun b o e n hb hx=>?_,fun b o e n hb hx=>?_,I.base.free,fun b o e hx=>?_,I.base.gW,I.base.gq,I.base.gJ⟩,⟨_,hn',fun j y v' e1 e2 e3=>?_⟩,fun y c e=>?_,I.free,I.dQ,fun p hp=>?_,tracked ⟨oL,hoL,I.free⟩ hs,by simpa using I.len⟩ ⟨_,hs,.inl rfl⟩
  ·exact(hs.2 b (Nat.ne_of_lt (Nat.lt_of_lt_of_le (Heap.lt_size e) I.ok.above))).trans (I.base.keep b o e n hb hx)
  ·obtain⟨sl,e1⟩:=I.base.slot b o e n hb hx
   exact⟨sl,(hs.2 b (Nat.ne_of_lt (Nat.lt_of_lt_of_le (Heap.lt_size e) I.ok.above))).trans e1⟩
  ·obtain⟨o',e1⟩:=I.base.there b o e hx
   exact⟨o',(hs.2 b (Nat.ne_of_lt (Nat.lt_of_lt_of_le (Heap.lt_size e) I.ok.above))).trans e1⟩
  ·by_cases hj:j=i
   ·subst hj
    rw[hi]at e1;cases e1
    rw[List.getElem?_set_self hiσ]at e2
    cases e2
    exact⟨u,r,.inl ⟨hk,by simp⟩⟩
   ·rw[List.getElem?_set_ne (Ne.symm hj)]at e2
    obtain⟨u',r',q⟩:=hl j y v' e1 e2 e3
    refine⟨u',r',?_⟩
    rcases q with ⟨k,e⟩|⟨k,c,e,z⟩
    ·refine .inl ⟨k,?_⟩
     have:y≠x:=fun e=>hj (Ay hN e1 (e▸hi))
     simp[this,e]
    ·exact .inr ⟨k,c,e,z.sameBut hs (j7 y c e)⟩
  ·obtain⟨w',z⟩:=I.cell y c e
   exact⟨w',z.sameBut hs (j7 y c e)⟩
  ·obtain⟨e,n,ne,nf,d⟩:=I.pin p hp
   exact⟨(hs.2 p.1 ne).trans e,n,ne,nf,d⟩
 ·have hfn:X.fn x=true:=by
   rcases hf with z|z
   ·exact z
   ·rw[z]at hk;cases hk
  obtain⟨c,hc⟩:=I.ok.has x (.inl hk)
  obtain⟨w',z⟩:=I.cell x c hc
  refine wpAny_storeName_cell I.ok.kind hk hc z (fun h' hc' hs=>?_)
  obtain⟨oc,hoc,hocd⟩:=id z
  refine h {s with heap:=h'} ⟨I.ok,I.os,I.bare,⟨fun b o e n hb hx=>?_,fun b o e n hb hx=>?_,I.base.free,fun b o e hx=>?_,I.base.gW,I.base.gq,I.base.gJ⟩,⟨m,hn.sameBut hs (Ne.symm (j7 x c hc)),fun j y v' e1 e2 e3=>?_⟩,fun y c' e=>?_,I.free,I.dQ,fun p hp=>?_,tracked ⟨oc,hoc,I.dQ x c hc⟩ hs,by simpa using I.len⟩ ⟨c,hs,.inr hc⟩
  ·exact(hs.2 b (Nat.ne_of_lt (Nat.lt_of_lt_of_le (Heap.lt_size e) (I.ok.jl x c hfn hc)))).trans (I.base.keep b o e n hb hx)
  ·obtain⟨sl,e1⟩:=I.base.slot b o e n hb hx
   exact⟨sl,(hs.2 b (Nat.ne_of_lt (Nat.lt_of_lt_of_le (Heap.lt_size e) (I.ok.jl x c hfn hc)))).trans e1⟩
  ·obtain⟨o',e1⟩:=I.base.there b o e hx
   exact⟨o',(hs.2 b (Nat.ne_of_lt (Nat.lt_of_lt_of_le (Heap.lt_size e) (I.ok.jl x c hfn hc)))).trans e1⟩
  ·by_cases hj:j=i
   ·subst hj
    rw[hi]at e1;cases e1
    rw[List.getElem?_set_self hiσ]at e2
    cases e2
    exact⟨u,r,.inr ⟨.inl hk,c,hc,hc'⟩⟩
   ·rw[List.getElem?_set_ne (Ne.symm hj)]at e2
    obtain⟨u',r',q⟩:=hl j y v' e1 e2 e3
    refine⟨u',r',?_⟩
    rcases q with q|⟨k,c',e,z'⟩
    ·exact .inl q
    ·refine .inr ⟨k,c',e,z'.sameBut hs ?_⟩
     rintro rfl
     exact hj (Ay hN e1 (I.ok.inj _ _ _ e hc▸hi))
  ·by_cases hcc:c'=c
   ·subst hcc;exact⟨_,hc'⟩
   ·obtain⟨w2,z2⟩:=I.cell y c' e
    exact⟨w2,z2.sameBut hs hcc⟩
  ·obtain⟨e,n,ne,nf,d⟩:=I.pin p hp
   refine⟨(hs.2 p.1 ?_).trans e,n,ne,nf,d⟩
   intro q
   rw[q,hoc]at e
   have q':oc=p.2:=Option.some.inj e
   exact d w' (by rw[<-q'];exact hocd)
theorem tO{M:Model}{A:Around}{E:Value->Shared->Prop}{i:Nat}{x:Str}{v:V}{u:Value}{Q:Unit->Shared->Prop}(I:Inv X pins σ H s)(hN:X.N.Nodup)(hi:X.N[i]? =some x)(hx:Loc X.env.scope x)(r:RelV v u)
  (h:∀s',Inv X pins (σ.set i (some v)) H s'->Q () s') (hf:X.fn x=true\/X.env.scope.names.lookup x=some .local:=by first|exact .inl rfl|exact .inr rfl|assumption):wpAny M A (storeName X.env x u) Q E s:=
 Jb I hN hi hx r (fun s' I' _=>h s' I') hf
theorem Inv.Lc{s':Shared}{ch:List Addr}(I:Inv X pins σ H s)(ho:s'.os=s.os)(u:Un (cv X.stack) ch H H' s.heap s'.heap)(aA:bC X.prog X.w H' s'.heap)(hg:AllBare s'.gens)
  (hch:∀b∈ch,(b∈X.ex\/X.b8.heap.objs.size<=b)/\b≠X.env.locals/\(∀x c,X.env.cells.lookup x=some c->c≠b)/\∀p∈X.pn++pins,p.1≠b):Inv X pins σ H' s':=by
 obtain⟨h',g',d',t',o'⟩:=s'
 have e:o'=s.os:=ho
 subst e
 exact I.call (g':=g') (t':=t') (d':=d') u aA hg hch
end
abbrev XK:=Value->Option Addr->Hp->Prop
abbrev St:=List (Option V)
abbrev VK:=V->Hp->Prop
abbrev TE:=St->Hp->VK->Prop
abbrev TT:=St->Hp->(Bool->Hp->Prop)->Prop
abbrev TA:=St->Hp->(List V->Hp->Prop)->Prop
structure Ends where
 nx:St->Hp->Prop
 rt:VK
 bk:St->Hp->Prop:=fun _ _=>False
 ct:St->Hp->Prop:=fun _ _=>False
abbrev TS:=Ends->St->Hp->Prop
def EP(X:Cx)(pins:List (Addr×Obj))(σ:St)(Q:VK)(u:Value)(s':Shared):Prop:=∃v H',Inv X pins σ H' s'/\RelV v u/\Q v H'
def TP(X:Cx)(pins:List (Addr×Obj))(σ:St)(Q:Bool->Hp->Prop)(b:Bool)(s':Shared):Prop:=∃H',Inv X pins σ H' s'/\Q b H'
def AP(X:Cx)(pins:List (Addr×Obj))(σ:St)(Q:List V->Hp->Prop)(us:List Value)(s':Shared):Prop:=∃vs H',Inv X pins σ H' s'/\aT vs us/\Q vs H'
def SP(X:Cx)(pins:List (Addr×Obj))(D:Ends)(f:Flow)(s':Shared):Prop:=
 match f with
 | .next=>∃σ' H',Inv X pins σ' H' s'/\D.nx σ' H'
 | .brk=>∃σ' H',Inv X pins σ' H' s'/\D.bk σ' H'
 | .cont=>∃σ' H',Inv X pins σ' H' s'/\D.ct σ' H'
 | .ret u=>∃v σ' H',Inv X pins σ' H' s'/\RelV v u/\D.rt v H'
def PE(X:Cx)(e:Expr)(t:TE):Prop:=
 ∀(pins:List (Addr×Obj))(s:Shared)(σ:St)(H:Hp)(Q:VK),Inv X pins σ H s->t σ H Q->wpAny (model X.prog X.w) X.A (eval e X.env) (EP X pins σ Q) X.xe s
def PT(X:Cx)(e:Expr)(t:TT):Prop:=
 ∀(pins:List (Addr×Obj))(s:Shared)(σ:St)(H:Hp)(Q:Bool->Hp->Prop),Inv X pins σ H s->t σ H Q->wpAny (model X.prog X.w) X.A (isTrue e X.env (eval e X.env)) (TP X pins σ Q) X.xe s
def PW(X:Cx)(e:Expr)(t:TT):Prop:=
 ∀(whole:Sem Value)(pins:List (Addr×Obj))(s:Shared)(σ:St)(H:Hp)(Q:Bool->Hp->Prop),Inv X pins σ H s->t σ H Q->wpAny (model X.prog X.w) X.A (isTrue e X.env whole) (TP X pins σ Q) X.xe s
theorem PW.pt{X:Cx}{e:Expr}{t:TT}(h:PW X e t):PT X e t:=h _
def PA(X:Cx)(es:List Expr)(t:TA):Prop:=
 ∀(pos:Pos)(pins:List (Addr×Obj))(s:Shared)(σ:St)(H:Hp)(Q:List V->Hp->Prop),Inv X pins σ H s->t σ H Q->wpAny (model X.prog X.w) X.A (spliced (backTo pos (starEach es X.env))) (AP X pins σ Q) X.xe s
def PS(X:Cx)(st:Stmt)(t:TS):Prop:=
 ∀(pins:List (Addr×Obj))(s:Shared)(σ:St)(H:Hp)(D:Ends),Inv X pins σ H s->t D σ H->wpAny (model X.prog X.w) X.A (exec st X.env) (SP X pins D) X.xe s
def dS(X:Cx)(st:List Stmt)(t:TS):Prop:=
 ∀(pins:List (Addr×Obj))(s:Shared)(σ:St)(H:Hp)(D:Ends),Inv X pins σ H s->t D σ H->wpAny (model X.prog X.w) X.A (execs st X.env) (SP X pins D) X.xe s
theorem aJ{α:Type}{t:Sem α}{Q Q':α->Shared->Prop}{M:Model}{A:Around}{E:Value->Shared->Prop}{s:Shared}(h:wpAny M A t Q E s)(hQ:∀a s,Q a s->Q' a s):wpAny M A t Q' E s:=wpAny_mono h hQ fun _ _ x=>x
end L2
namespace L2
open PySem PySem.Spec PyProof.Rows
section
variable {X:Cx}
def bD(i:Nat):TE:=fun σ H Q=>∃v,σ[i]? =some (some v)/\Q v H
def tC(v:V):TE:=fun _ H Q=>Q v H
theorem MM{i:Nat}{x:Str}{pos:Pos}(hN:X.N[i]? =some x)(hv:mW X.env.scope x)(hd:(x==("__debug__":Str))=false:=by decide)(hcd:(x==("__classdict__":Str))=false:=by decide):PE X (.Name x pos) (bD i):=by
 intro pins s σ H Q I h
 obtain⟨v,e,h⟩:=h
 obtain⟨m,hn,hl⟩:=I.loc
 obtain⟨u,r,l⟩:=hl i x v hN e hv
 have fin:EP X pins σ Q u s:=⟨v,H,I,r,h⟩
 rcases l with ⟨hk,hm⟩|⟨hk,c,hc,hcell⟩
 ·exact wpAny_Name (wpAny_loadName_local I.ok.kind hk hn hm fin) hd
 ·rcases hk with hk|hk
  ·exact wpAny_Name (wpAny_loadName_cell I.ok.kind hk hc hcell fin) hd
  ·exact wpAny_Name (wpAny_loadName_free I.ok.kind hk hc hcell fin hcd) hd
theorem bW{i j pos}:PE X (.Constant (.int i) j pos) (tC (.int i)):=fun _ _ _ H _ I h=>wpAny_Constant_int ⟨.int i,H,I.tok _,⟨_,rfl⟩,h⟩
theorem OP{b j pos}:PE X (.Constant (.bool b) j pos) (tC (.bl b)):=fun _ _ _ H _ I h=>Constant_bool ⟨.bl b,H,I,rfl,h⟩
theorem ij{j pos}:PE X (.Constant .none j pos) (tC .ax):=fun _ _ _ H _ I h=>Constant_none ⟨.ax,H,I,rfl,h⟩
theorem aP{x j pos}:PE X (.Constant (.str x) j pos) (tC (.str x)):=fun _ _ _ H _ I h=>Calls.Constant_str ⟨.str x,H,I.tok _,⟨_,rfl⟩,h⟩
def Gl(X:Cx)(x:Str):Prop:=X.env.kindOf x=some .globalImplicit
theorem jg{E:Value->Shared->Prop}{pins:List (Addr×Obj)}{s:Shared}{σ:St}{H:Hp}{x:Str}{u:Value}{pos:Pos}{Q:Value->Shared->Prop}(I:Inv X pins σ H s)(hg:Gl X x)(hm:X.mg x=some u)(h:Q u s)
  (hd:(x==("__debug__":Str))=false:=by decide):wpAny (model X.prog X.w) X.A (eval (.Name x pos) X.env) Q E s:=
 Calls.Name_function_global I.ok.kind hg (Calls.loadGlobal_global (by rw[I.ok.glob];exact I.mod.glob.keeps I.bk) hm h) hd
theorem FK{E:Value->Shared->Prop}{pins:List (Addr×Obj)}{s:Shared}{σ:St}{H:Hp}{x:Str}{u:Value}{pos:Pos}{Q:Value->Shared->Prop}(I:Inv X pins σ H s)(hg:Gl X x)(hm:X.mg x=none)(hv:bootBuiltins x=some u)(h:Q u s)
  (hn:x≠"__name__":=by decide) (hd:(x==("__debug__":Str))=false:=by decide):wpAny (model X.prog X.w) X.A (eval (.Name x pos) X.env) Q E s:=by
 obtain⟨mb,h1,h2⟩:=I.mod.blt
 exact Calls.Name_function_global I.ok.kind hg (Calls.loadGlobal_builtin (by rw[I.ok.glob];exact I.mod.glob.keeps I.bk) hm (by rw[I.ok.blt];exact h1.keeps I.bk) ((h2 x hn).trans hv) h) hd
theorem rD{x:Str}{v:V}{u:Value}{pos:Pos}(hg:Gl X x)(hm:X.mg x=some u)(r:RelV v u)(hd:(x==("__debug__":Str))=false:=by decide):PE X (.Name x pos) (tC v):=
 fun _ _ _ H _ I h=>jg I hg hm ⟨v,H,I,r,h⟩ hd
variable {a b:Expr}{ta tb:TE}{pos:Pos}
def PC(X:Cx)(op:CmpOp)(a b:Expr)(t:TE):Prop:=
 ∀(pins:List (Addr×Obj))(s:Shared)(σ:St)(H:Hp)(Q:VK),Inv X pins σ H s->t σ H Q->
  wpAny (model X.prog X.w) X.A (eval a X.env) (fun v s₁=>wpAny (model X.prog X.w) X.A (eval b X.env) (fun u s₂=>wpAny (model X.prog X.w) X.A (compareOp op v u) (EP X pins σ Q) X.xe s₂) X.xe s₁) X.xe s
def tB(t:TE):TT:=fun σ H Q=>t σ H fun x H1=>∃c,x=.bl c/\Q c H1
theorem Hi{op:CmpOp}{t:TE}(h:PC X op a b t)(h1:behindInMarks op b=false:=by first|exact nobehind _ (by decide) (by decide)|rfl):PT X (.Compare a [op] [b] pos) (tB t):=by
 intro pins s σ H Q I hw
 refine wpAny_isTrue_Compare1 (aJ (h pins s σ H _ I hw) fun v s1 h1=>aJ h1 fun u s2 h2=>aJ h2 fun c s3 hh1=>?_) h1
 obtain⟨x,H1,I1,r1,q1⟩:=hh1
 obtain⟨d,rfl,q⟩:=q1
 cases r1
 exact wpAny_truthy_bool ⟨H1,I1,q⟩
theorem cX{e:Expr}{t:TE}(h:PE X e t)(he:∀whole,isTrue e X.env whole=(do let v <-whole;standAt e.pos;holding [v] (truthy v)):=by intro _;rfl):PT X e (tB t):=by
 intro pins s σ H Q I hw
 refine isTrue_plain (aJ (h pins s σ H _ I hw) fun v s1 hh2=>?_) (he _)
 obtain⟨x,H1,I1,r1,q1⟩:=hh2
 obtain⟨d,rfl,q⟩:=q1
 cases r1
 exact wpAny_truthy_bool ⟨H1,I1,q⟩
variable {tA tB':TT}{rest:List Expr}
def K9(t u:TT):TT:=fun σ H Q=>t σ H fun c H1=>if c=true then u σ H1 Q else Q false H1
def tF(t u:TT):TT:=fun σ H Q=>t σ H fun c H1=>if c=true then Q true H1 else u σ H1 Q
def IV(t:TT):TT:=fun σ H Q=>t σ H fun c H1=>Q (!c) H1
theorem mw(ha:PT X a tA):PW X (.BoolOp .And [a] pos) tA:=by
 intro wh pins s σ H Q I h
 refine isTrue_and (aJ (ha pins s σ H Q I h) fun c s1 e=>?_)
 cases c with
 |true=>exact isTrue_and_nil e
 |false=>exact e
theorem iZ(ha:PT X a tA):PW X (.BoolOp .Or [a] pos) tA:=by
 intro wh pins s σ H Q I h
 refine isTrue_or (aJ (ha pins s σ H Q I h) fun c s1 e=>?_)
 cases c with
 |false=>exact isTrue_or_nil e
 |true=>exact e
theorem ky(ha:PT X a tA)(hb:PW X (.BoolOp .And (b::rest) pos) tB'):PW X (.BoolOp .And (a::b::rest) pos) (K9 tA tB'):=by
 intro wh pins s σ H Q I h
 refine isTrue_and (aJ (ha pins s σ H _ I h) fun c s1 hh3=>?_)
 obtain⟨H1,I1,q1⟩:=hh3
 cases c with
 |true=>exact hb wh pins s1 σ H1 Q I1 q1
 |false=>exact⟨H1,I1,q1⟩
theorem iL(ha:PT X a tA)(hb:PW X (.BoolOp .Or (b::rest) pos) tB'):PW X (.BoolOp .Or (a::b::rest) pos) (tF tA tB'):=by
 intro wh pins s σ H Q I h
 refine isTrue_or (aJ (ha pins s σ H _ I h) fun c s1 hh4=>?_)
 obtain⟨H1,I1,q1⟩:=hh4
 cases c with
 |true=>exact⟨H1,I1,q1⟩
 |false=>exact hb wh pins s1 σ H1 Q I1 q1
theorem NC(ha:PT X a tA):PT X (.UnaryOp .Not a pos) (IV tA):=by
 intro pins s σ H Q I h
 exact isTrue_not (ha pins s σ H (fun c H1=>Q (!c) H1) I h)
def B3(ta tb:TE):TE:=fun σ H Q=>ta σ H fun x H1=>∃c,x=.bl c/\if c=true then tb σ H1 Q else Q (.bl false) H1
def KS(ta tb:TE):TE:=fun σ H Q=>ta σ H fun x H1=>∃c,x=.bl c/\if c=true then Q (.bl true) H1 else tb σ H1 Q
theorem vh{op}{t:TE}(h:PE X a t):PE X (.BoolOp op [a] pos) t:=fun pins s σ H Q I hw=>BoolOp_one (h pins s σ H Q I hw)
theorem Di(ha:PE X a ta)(hb:PE X (.BoolOp .And (b::rest) pos) tb):PE X (.BoolOp .And (a::b::rest) pos) (B3 ta tb):=by
 intro pins s σ H Q I h
 refine BoolOp_and (aJ (ha pins s σ H _ I h) fun v s1 hh5=>?_)
 obtain⟨x,H1,I1,r1,q1⟩:=hh5
 obtain⟨c,rfl,q1⟩:=q1
 cases r1
 refine wpAny_truthy_bool ?_
 cases c with
 |true=>exact hb pins s1 σ H1 Q I1 q1
 |false=>exact⟨.bl false,H1,I1,rfl,q1⟩
theorem tU(ha:PE X a ta)(hb:PE X (.BoolOp .Or (b::rest) pos) tb):PE X (.BoolOp .Or (a::b::rest) pos) (KS ta tb):=by
 intro pins s σ H Q I h
 refine BoolOp_or (aJ (ha pins s σ H _ I h) fun v s1 hh6=>?_)
 obtain⟨x,H1,I1,r1,q1⟩:=hh6
 obtain⟨c,rfl,q1⟩:=q1
 cases r1
 refine wpAny_truthy_bool ?_
 cases c with
 |false=>exact hb pins s1 σ H1 Q I1 q1
 |true=>exact⟨.bl true,H1,I1,rfl,q1⟩
def DQ(t:TT)(ta tb:TE):TE:=fun σ H Q=>t σ H fun c H1=>if c=true then ta σ H1 Q else tb σ H1 Q
theorem Fg{c:Expr}(hc:PT X c tA)(ha:PE X a ta)(hb:PE X b tb):PE X (.IfExp c a b pos) (DQ tA ta tb):=by
 intro pins s σ H Q I h
 refine wpAny_IfExp (aJ (hc pins s σ H _ I h) fun d s1 hh7=>?_)
 obtain⟨H1,I1,q1⟩:=hh7
 cases d with
 |true=>exact ha pins s1 σ H1 Q I1 q1
 |false=>exact hb pins s1 σ H1 Q I1 q1
end
end L2
namespace L2
open PySem PySem.Spec PyProof.Rows
def aF(K:PySem.W.Frag)(H:Hp)(a:Addr)(xs:List V):Prop:=
 Rd H a (.lst xs)\/
  ∃(o:Obj)(its:Array Value)(n:Nat),K.lookup a=some o/\o.cls=.type "list"/\o.dict=none/\o.data=.seq its n/\its.size<=sizeLine/\aT xs its.toList
def fq(K:PySem.W.Frag)(H:Hp)(a:Addr)(xs:List V):Prop:=
 Rd H a (.tup xs)\/
  ∃(o:Obj)(its:Array Value)(n:Nat),K.lookup a=some o/\o.cls=.type "tuple"/\o.data=.seq its n/\its.size<=sizeLine/\aT xs its.toList
def Oi:Value->Option V
 | .none=>some .ax
 | .bool b=>some (.bl b)
 | .int i _=>some (.int i)
 | .str x _=>some (.str x)
 | .bytes b _=>some (.eN b)
 | .float b _=>some (.ku b)
 | .ref a=>some (.ref a)
 | .type n=>some (.ty n)
 |_=>none
theorem RelV.abs{x:V}{u:Value}(r:RelV x u):Oi u=some x:=by
 cases x with
 |ax=>cases r;rfl
 |bl _=>cases r;rfl
 |int _=>obtain⟨t,rfl⟩:=r;rfl
 |str _=>obtain⟨t,rfl⟩:=r;rfl
 |eN _=>obtain⟨t,rfl⟩:=r;rfl
 |ku _=>obtain⟨t,rfl⟩:=r;rfl
 |ref _=>cases r;rfl
 |ty _=>cases r;rfl
theorem RelV.inj{x y:V}{u:Value}(r:RelV x u)(q:RelV y u):x=y:=Option.some.inj (r.abs.symm.trans q.abs)
theorem aT.inj:∀{xs ys:List V}{us:List Value},aT xs us->aT ys us->xs=ys
 |_,_,_,.nil,.nil=>rfl
 |_,_,_,.cons r t,.cons r' t'=>by rw[r.inj r',aT.inj t t']
section
variable {X:Cx}{pins:List (Addr×Obj)}{σ:St}{H:Hp}{s:Shared}{a:Addr}{xs ys:List V}
theorem aF.of{K:PySem.W.Frag}(h:H a=some (.lst xs)):aF K H a xs:=.inl (.inl h)
theorem fq.of{K:PySem.W.Frag}(h:H a=some (.tup xs)):fq K H a xs:=.inl (.inl h)
theorem Inv.list(I:Inv X pins σ H s)(h:aF X.K H a xs):∃its:List Value,aT xs its/\PlainL s.heap a its.toArray/\xs.length<=sizeLine:=by
 rcases h with h|⟨o,its,n,hk,hc,hd,hs,hz,r⟩
 ·obtain⟨z,its,n,r,e⟩:=h.ok I.aA
  exact⟨its,r,⟨_,n,e,rfl,rfl,rfl⟩,z⟩
 ·refine⟨its.toList,r,⟨o,n,I.bp a o hk,hc,hd,by simpa using hs⟩,?_⟩
  have e:=r.length
  simp only[Array.length_toList]at e
  lia
theorem Inv.tuple(I:Inv X pins σ H s)(h:fq X.K H a xs):∃its:List Value,aT xs its/\IsTup s.heap a its.toArray/\xs.length<=sizeLine:=by
 rcases h with h|⟨o,its,n,hk,hc,hs,hz,r⟩
 ·obtain⟨z,its,r,p⟩:=h.ok I.aA
  exact⟨its,r,p,z⟩
 ·refine⟨its.toList,r,⟨o,I.bp a o hk,hc,n,by simpa using hs⟩,?_⟩
  have e:=r.length
  simp only[Array.length_toList]at e
  lia
theorem Inv.JA(I:Inv X pins σ H s)(h:aF X.K H a xs)(h':aF X.K H a ys):xs=ys:=by
 obtain⟨its,r,⟨o,n,e,_,_,d⟩,_⟩:=I.list h
 obtain⟨its',r',⟨o',n',e',_,_,d'⟩,_⟩:=I.list h'
 rw[e]at e';cases e'
 rw[d]at d'
 injection d' with d1 _
 have:its=its':=by simpa using congrArg Array.toList d1
 subst this
 exact r.inj r'
end
abbrev Cx.iC(X:Cx)(E:Value->Shared->Prop):Cx:={X with xe:=E}
abbrev Cx.tV(X:Cx):Cx:=X.iC fun _ _=>False
theorem Cx.Ok.iC{X:Cx}(ok:X.Ok)(E:Value->Shared->Prop):(X.iC E).Ok:=
 ⟨ok.mod,ok.kind,ok.glob,ok.blt,ok.above,ok.inj,ok.has,ok.jl,ok.hd,ok.frames,ok.jj,ok.jJ,ok.bs,ok.fA,ok.iR,ok.iP,ok.dX,ok.fW⟩
theorem Cx.Ok.jL{X:Cx}{E:Value->Shared->Prop}(ok:(X.iC E).Ok):X.Ok:=
 ⟨ok.mod,ok.kind,ok.glob,ok.blt,ok.above,ok.inj,ok.has,ok.jl,ok.hd,ok.frames,ok.jj,ok.jJ,ok.bs,ok.fA,ok.iR,ok.iP,ok.dX,ok.fW⟩
section
variable {X:Cx}{pins:List (Addr×Obj)}{σ:St}{H:Hp}{s:Shared}{E:Value->Shared->Prop}
theorem Inv.iC(I:Inv X pins σ H s)(E:Value->Shared->Prop):Inv (X.iC E) pins σ H s:=⟨I.ok.iC E,I.os,I.bare,I.base,I.loc,I.cell,I.free,I.dQ,I.pin,I.aA,I.len⟩
theorem Inv.jL(I:Inv (X.iC E) pins σ H s):Inv X pins σ H s:=⟨I.ok.jL,I.os,I.bare,I.base,I.loc,I.cell,I.free,I.dQ,I.pin,I.aA,I.len⟩
theorem SP.jL{D:Ends}{f:Flow}{s':Shared}(h:SP (X.iC E) pins D f s'):SP X pins D f s':=by
 cases f with
 |next=>obtain⟨σ',H',I,q⟩:=h;exact⟨σ',H',I.jL,q⟩
 |brk=>obtain⟨σ',H',I,q⟩:=h;exact⟨σ',H',I.jL,q⟩
 |cont=>obtain⟨σ',H',I,q⟩:=h;exact⟨σ',H',I.jL,q⟩
 |ret u=>obtain⟨v,σ',H',I,r,q⟩:=h;exact⟨v,σ',H',I.jL,r,q⟩
theorem dS.tV{st:List Stmt}{t:TS}(h:dS X.tV st t):dS X st t:=fun pins s σ H D I hw=>
 wpAny_mono (h pins s σ H D (I.iC _) hw) (fun _ _ q=>q.jL) fun _ _ z=>False.elim z
end
section
variable {X:Cx}{st:Stmt}{rest:List Stmt}{t u:TS}{e:Expr}{te:TE}{pos:Pos}
def sJ:TS:=fun D σ H=>D.nx σ H
def jE(t u:TS):TS:=fun D σ H=>t {D with nx:=u D} σ H
theorem ba:dS X [] sJ:=fun _ _ σ H _ I h=>wpAny_execs_nil ⟨σ,H,I,h⟩
theorem ai(h1:PS X st t)(h2:dS X rest u):dS X (st::rest) (jE t u):=by
 intro pins s σ H D I h
 refine wpAny_execs_cons (aJ (h1 pins s σ H {D with nx:=u D} I h) fun f s1 q=>?_)
 cases f with
 |next=>
  obtain⟨σ',H',I',q⟩:=q
  exact h2 pins s1 σ' H' D I' q
 |ret v=>exact q
 |brk=>exact q
 |cont=>exact q
theorem aj(h1:PS X st t):dS X [st] t:=by
 intro pins s σ H D I h
 refine wpAny_execs_cons (aJ (h1 pins s σ H D I h) fun f s1 q=>?_)
 cases f with
 |next=>exact wpAny_execs_nil q
 |ret v=>exact q
 |brk=>exact q
 |cont=>exact q
theorem Inv.quiet{pins:List (Addr×Obj)}{σ:St}{H:Hp}{s:Shared}(I:Inv X pins σ H s):interactive X.env=false:=by simp[interactive,I.ok.kind]
def IY(te:TE):TS:=fun D σ H=>te σ H fun _ H1=>D.nx σ H1
theorem a3(he:PE X e te)(hs:swapsWith e none pos.line X.env=pure false:=by rfl):PS X (.Expr e pos) (IY te):=by
 intro pins s σ H D I h
 exact wpAny_Expr_any (aJ (he pins s σ H _ I h) fun v s1⟨x,H1,I1,r1,q1⟩=>⟨σ,H1,I1,q1⟩) I.quiet hs
def oS(te:TE):TS:=fun D σ H=>te σ H D.rt
theorem aN(he:PE X e te):PS X (.Return (some e) pos) (oS te):=by
 intro pins s σ H D I h
 exact wpAny_Return_some (aJ (he pins s σ H _ I h) fun v s1⟨x,H1,I1,r1,q1⟩=>⟨x,σ,H1,I1,r1,q1⟩)
def LU:TS:=fun D _ H=>D.rt .ax H
theorem Hg:PS X (.Return none pos) LU:=fun _ _ σ H _ I h=>wpAny_Return_none ⟨.ax,σ,H,I,rfl,h⟩
def uS(c:TT)(t u:TS):TS:=fun D σ H=>c σ H fun b H1=>if b=true then t D σ H1 else u D σ H1
theorem a5{c:Expr}{a b:List Stmt}{tc:TT}(hc:PT X c tc)(ha:dS X a t)(hb:dS X b u):PS X (.If c a b pos) (uS tc t u):=by
 intro pins s σ H D I h
 refine wpAny_If (aJ (hc pins s σ H _ I h) fun d s1 hh8=>?_)
 obtain⟨H1,I1,q1⟩:=hh8
 cases d with
 |true=>exact ha pins s1 σ H1 D I1 q1
 |false=>exact hb pins s1 σ H1 D I1 q1
end
abbrev TG:=V->St->Hp->(St->Hp->Prop)->Prop
abbrev kX:=List V->St->Hp->(St->Hp->Prop)->Prop
def PG(X:Cx)(target:Expr)(t:TG):Prop:=
 ∀(pins:List (Addr×Obj))(s:Shared)(σ:St)(H:Hp)(v:V)(u:Value)(Q:St->Hp->Prop),Inv X pins σ H s->RelV v u->t v σ H Q->
  wpAny (model X.prog X.w) X.A (assign target X.env u) (fun _ s'=>∃σ' H',Inv X pins σ' H' s'/\Q σ' H') X.xe s
def uI(X:Cx)(ts:List Expr)(t:kX):Prop:=
 ∀(pins:List (Addr×Obj))(s:Shared)(σ:St)(H:Hp)(vs:List V)(us:List Value)(Q:St->Hp->Prop),Inv X pins σ H s->aT vs us->t vs σ H Q->
  wpAny (model X.prog X.w) X.A (assignInOrder ((assignEach ts X.env).map (·.2)) us) (fun _ s'=>∃σ' H',Inv X pins σ' H' s'/\Q σ' H') X.xe s
abbrev uj:=V->V->Hp->VK->Prop
def G6(X:Cx)(op:Operator)(t:uj):Prop:=
 ∀(pins:List (Addr×Obj))(s:Shared)(σ:St)(H:Hp)(x y:V)(v u:Value)(Q:VK),Inv X pins σ H s->RelV x v->RelV y u->t x y H Q->
  wpAny (model X.prog X.w) X.A (inplaceOp op v u) (EP X pins σ Q) X.xe s
section
variable {X:Cx}{pos:Pos}
def pY(i:Nat):TG:=fun v σ H Q=>Q (σ.set i (some v)) H
theorem jW{i:Nat}{x:Str}(hN:X.N.Nodup)(hi:X.N[i]? =some x)(hx:Loc X.env.scope x)(hf:X.fn x=true\/X.env.scope.names.lookup x=some .local:=by first|exact .inl rfl|exact .inr rfl|assumption):PG X (.Name x pos) (pY i):=by
 intro pins s σ H v u Q I r h
 exact wpAny_assign_Name (tO I hN hi hx r (fun s' I'=>⟨_,H,I',h⟩) hf)
def L8:kX:=fun vs σ H Q=>vs=[]/\Q σ H
def Np(t:TG)(u:kX):kX:=fun vs σ H Q=>∃v r,vs=v::r/\t v σ H fun σ' H'=>u r σ' H' Q
theorem Oy:uI X [] L8:=by
 intro pins s σ H vs us Q I r h
 obtain⟨e,h⟩:=h
 subst e
 cases r
 exact assignInOrder_nil ⟨σ,H,I,h⟩
theorem Bm{e:Expr}{es:List Expr}{t:TG}{u:kX}(h1:PG X e t)(h2:uI X es u)
  (hs:(assignEach (e::es) X.env).map (·.2)=assign e X.env::(assignEach es X.env).map (·.2):=by rfl):uI X (e::es) (Np t u):=by
 intro pins s σ H vs us Q I r h
 obtain⟨v,vr,e1,h⟩:=h
 subst e1
 cases r with
 |cons r rr=>
  rw[hs]
  refine assignInOrder_cons (aJ (h1 pins s σ H _ _ _ I r h) fun _ s1 hh9=>?_)
  obtain⟨σ1,H1,I1,q1⟩:=hh9
  exact h2 pins s1 σ1 H1 _ _ Q I1 rr q1
def Ia(K:PySem.W.Frag)(n:Nat)(t:kX):TG:=fun v σ H Q=>∃a xs,v=.ref a/\fq K H a xs/\xs.length=n/\t xs σ H Q
theorem Jl{es:List Expr}{k:Nat}{t:kX}{n:Nat}(hc:X.calm=true)(h:uI X es t)
  (hn:(assignEach es X.env).length=n:=by rfl) (hst:(assignEach es X.env).findIdx? (·.1)=none:=by rfl):PG X (.Tuple es k pos) (Ia X.K n t):=by
 intro pins s σ H v u Q I r hw
 obtain⟨a,xs,e1,hq,hl,hw⟩:=hw
 subst e1
 cases r
 obtain⟨its,rv,ht,hz⟩:=I.tuple hq
 refine assign_Tuple_tuple (I.ok.hd hc) ht (by simp[hn,<-hl,rv.length]) hst fun h' hx=>?_
 have I1:Inv X pins σ H {s with heap:=h'}:=I.kept (t':=s.toks) fun b o e=>hx b o (Nat.ne_of_lt (Heap.lt_size e)) e
 exact h pins _ σ H xs _ Q I1 (by simpa using rv) hw
def vm(te:TE)(g:TG):TS:=fun D σ H=>te σ H fun x H1=>g x σ H1 D.nx
theorem aY{i:Nat}{x:Str}{e:Expr}{te:TE}{pos':Pos}(hN:X.N.Nodup)(hi:X.N[i]? =some x)(hx:Loc X.env.scope x)(he:PE X e te)(hs:swapsWith e (some (.Name x pos')) pos.line X.env=pure false:=by rfl)(hf:X.fn x=true\/X.env.scope.names.lookup x=some .local:=by first|exact .inl rfl|exact .inr rfl|assumption):
  PS X (.Assign [.Name x pos'] e pos) (vm te (pY i)):=by
 intro pins s σ H D I h
 refine wpAny_Assign_Name (aJ (he pins s σ H _ I h) fun v s1 hh10=>?_) hs
 obtain⟨y,H1,I1,r1,q1⟩:=hh10
 exact tO I1 hN hi hx r1 (fun s2 I2=>⟨_,H1,I2,q1⟩) hf
def JM(i:Nat)(te:TE)(ti:uj):TS:=fun D σ H=>∃x,σ[i]? =some (some x)/\te σ H fun y H1=>ti x y H1 fun z H2=>D.nx (σ.set i (some z)) H2
theorem pJ{i:Nat}{x:Str}{e:Expr}{te:TE}{op:Operator}{ti:uj}{pos':Pos}(hN:X.N.Nodup)(hi:X.N[i]? =some x)(hx:Loc X.env.scope x)(he:PE X e te)(ho:G6 X op ti)(hf:X.fn x=true\/X.env.scope.names.lookup x=some .local:=by first|exact .inl rfl|exact .inr rfl|assumption):
  PS X (.AugAssign (.Name x pos') op e pos) (JM i te ti):=by
 intro pins s σ H D I h
 obtain⟨v,e1,h⟩:=h
 obtain⟨m,hn,hl⟩:=I.loc
 have vis:mW X.env.scope x:=by rcases hx with k|k;exact .inl k;exact .inr (.inl k)
 obtain⟨u,r,l⟩:=hl i x v hi e1 vis
 refine wpAny_AugAssign_Name ?_
 have go:wpAny (model X.prog X.w) X.A (eval e X.env) (fun w s₂=>wpAny (model X.prog X.w) X.A (inplaceOp op u w) (fun r s₃=>wpAny (model X.prog X.w) X.A (storeName X.env x r) (fun _=>SP X pins D .next) X.xe s₃) X.xe s₂) X.xe s:=by
  refine aJ (he pins s σ H _ I h) fun w s1 hh11=>?_
  obtain⟨y,H1,I1,r1,q1⟩:=hh11
  refine aJ (ho pins s1 σ H1 v y u w _ I1 r r1 q1) fun z s2 hh12=>?_
  obtain⟨zv,H2,I2,r2,q2⟩:=hh12
  exact tO I2 hN hi hx r2 (fun s3 I3=>⟨_,H2,I3,q2⟩) hf
 rcases l with ⟨hk,hm⟩|⟨hk,c,hc,hcell⟩
 ·exact wpAny_loadName_local I.ok.kind hk hn hm go
 ·rcases hk with hk|hk
  ·exact wpAny_loadName_cell I.ok.kind hk hc hcell go
  ·rcases hx with k|k
   ·have:X.env.scope.names.lookup x=some .free:=hk
    rw[k]at this;cases this
   ·have:X.env.scope.names.lookup x=some .free:=hk
    rw[k]at this;cases this
def PV(f:Int->Int->Int):uj:=fun x y H Q=>∃i j,x=.int i/\y=.int j/\Q (.int (f i j)) H
theorem sk:G6 X .Add (PV fun i j=>i+j):=by
 intro pins s σ H x y v u Q I r1 r2 h
 obtain⟨i,j,e1,e2,q⟩:=h
 subst e1;subst e2
 obtain⟨t,rfl⟩:=r1
 obtain⟨t',rfl⟩:=r2
 exact iadd_int ⟨.int _,H,I.tok _,⟨_,rfl⟩,q⟩
end
section
variable {X:Cx}{pos:Pos}
def DO(c:TT)(tb:TS):TS:=fun D σ H=>∃W:Nat->St->Hp->Prop,(∃m,W m σ H)/\∀m σ H,W m σ H->
 c σ H fun b H1=>if b=true then ∃N:St->Hp->Prop,(∀σ' H',N σ' H'->∃m',m'<m/\W m' σ' H')/\tb {D with nx:=N,ct:=N,bk:=D.nx} σ H1 else D.nx σ H1
theorem f7{c:Expr}{body:List Stmt}{tc:TT}{tb:TS}(hp:PassesOwn (model X.prog X.w) X.A X.env X.xe)(hc:PT X c tc)(hb:dS X body tb):PS X (.While c body [] pos) (DO tc tb):=by
 intro pins s σ H D I h
 obtain⟨W,⟨m0,w0⟩,turn⟩:=h
 refine wpAny_While (codeAny_whileLoop (fun n s'=>∃σ' H',Inv X pins σ' H' s'/\W n σ' H') ?_ m0 ⟨σ,H,I,w0⟩)
 rintro n s1 ⟨σ1,H1,I1,w1⟩
 refine wpAny_passesOwn hp (aJ (hc pins s1 σ1 H1 _ I1 (turn n σ1 H1 w1)) fun b s2 hh13=>?_)
 obtain⟨H2,I2,q2⟩:=hh13
 cases b with
 |true=>
  obtain⟨N,hN,q2⟩:=q2
  rw[if_pos rfl]
  refine wpAny_passesOwn hp (aJ (hb pins s2 σ1 H2 _ I2 q2) fun f s3 q3=>?_)
  cases f with
  |next=>
   obtain⟨σ3,H3,I3,n3⟩:=q3
   obtain⟨m',hm,w3⟩:=hN σ3 H3 n3
   exact⟨m',hm,σ3,H3,I3,w3⟩
  |cont=>
   obtain⟨σ3,H3,I3,n3⟩:=q3
   obtain⟨m',hm,w3⟩:=hN σ3 H3 n3
   exact⟨m',hm,σ3,H3,I3,w3⟩
  |brk=>exact q3
  |ret v=>exact q3
 |false=>
  rw[if_neg Bool.false_ne_true]
  exact wpAny_execs_nil ⟨σ1,H2,I2,q2⟩
end
structure It where
 go:Nat->Hp->Prop
 mF:Nat->Hp->V->Hp->Prop
 stop:Nat->Hp->Prop
def ic(X:Cx)(pins:List (Addr×Obj))(H:Hp)(b:Addr):Prop:=
 H b=none/\b≠X.env.locals/\b∉X.fs/\(b∈X.ex\/X.b8.heap.objs.size<=b)/\(∀x c,X.env.cells.lookup x=some c->c≠b)/\∀p∈X.pn++pins,p.1≠b
theorem Inv.v5{X:Cx}{pins:List (Addr×Obj)}{σ:St}{H H':Hp}{s:Shared}{b:Addr}(I:Inv X pins σ H s)(hb:s.heap.objs.size<=b)(hn:H' b=none):ic X pins H' b:=by
 refine⟨hn,Nat.ne_of_gt (Nat.lt_of_lt_of_le I.lt hb),I.MY hb,.inr (Nat.le_trans I.sz hb),fun x c e z=>?_,fun p hp z=>?_⟩
 ·obtain⟨v,q⟩:=I.cell x c e
  exact absurd (Nat.lt_of_lt_of_le q.lt (by rw[z];exact hb)) (Nat.lt_irrefl _)
 ·exact absurd (Nat.lt_of_lt_of_le (Heap.lt_size (I.pin p hp).1) (by rw[z];exact hb)) (Nat.lt_irrefl _)
structure Turn(P:Program)(w:World)(K:PySem.W.Frag)(tg:Expr)(J:It)(fp:List Addr)(it:Addr)(tn:Nat->Heap->Prop):Prop where
 mem:it∈fp
 obj:∀i h,tn i h->∀b∈fp,∃o,h.get? b=some o/\∀v,o.data≠ .cell v
 keep:∀i h h',tn i h->(∀b∈fp,∀o,h.get? b=some o->h'.get? b=some o)->tn i h'
 item:∀(X:Cx),X.prog=P->X.w=w->X.K=K->X.calm=true->∀(i:Nat)(pins:List (Addr×Obj))(s:Shared)(σ:St)(H:Hp)(E:Value->Shared->Prop),Inv X pins σ H s->(∀b∈fp,ic X pins H b)->tn i s.heap->J.go i H->
  wpAny (model P w) X.A (pyNext (.ref it)) (fun r s1=>∃u,r=some u/\
   wpAny (model P w) X.A (letOwnedTupleGo tg (.ref it) u) (fun _ s2=>∃x H',Inv X pins σ H' s2/\RelV x u/\J.mF i H x H'/\tn (i+1) s2.heap/\∀b∈fp,H' b=none) E s1) E s
 done:∀(X:Cx),X.prog=P->X.w=w->X.K=K->X.calm=true->∀(i:Nat)(pins:List (Addr×Obj))(s:Shared)(σ:St)(H:Hp)(E:Value->Shared->Prop),Inv X pins σ H s->(∀b∈fp,ic X pins H b)->tn i s.heap->J.stop i H->
  wpAny (model P w) X.A (pyNext (.ref it)) (fun r s1=>r=none/\Inv X pins σ H s1) E s
 self:∀(A:Around)(i:Nat)(s:Shared)(Q:Value->Shared->Prop)(E:Value->Shared->Prop),tn i s.heap->Q (.ref it) s->wpAny (model P w) A (pyIter (.ref it)) Q E s
abbrev TI:=St->Hp->(It->Hp->Prop)->Prop
def Dr(X:Cx)(pins:List (Addr×Obj))(σ:St)(tg:Expr)(R:It->Hp->Prop)(itv:Value)(s2:Shared):Prop:=
 ∃(it:Addr)(fp:List Addr)(tn:Nat->Heap->Prop)(J:It)(H':Hp),itv=.ref it/\Inv X pins σ H' s2/\Turn X.prog X.w X.K tg J fp it tn/\tn 0 s2.heap/\(∀b∈fp,ic X pins H' b)/\R J H'
def PI(X:Cx)(tg iter:Expr)(wi:TI):Prop:=
 ∀(pins:List (Addr×Obj))(s:Shared)(σ:St)(H:Hp)(R:It->Hp->Prop),Inv X pins σ H s->wi σ H R->
  wpAny (model X.prog X.w) X.A (eval iter X.env) (fun v s1=>wpAny (model X.prog X.w) X.A (pyIter v) (Dr X pins σ tg R) X.xe s1) X.xe s
theorem Bp{M:Model}{A:Around}{E:Value->Shared->Prop}{s:Shared}{tg:Expr}{it:Addr}{u:Value}{o:Obj}{n:String}{vs:Array Value}{Q:Unit->Shared->Prop}(ho:s.heap.get? it=some o)(hc:o.cls=.type n)(hd:o.data=.fields vs)
  (hn:["enumerate","zip","dict_itemiterator","dict_reverseitemiterator","odict_iterator","itertools.zip_longest","itertools.pairwise"].contains n=false) (hQ:Q () s):wpAny M A (letOwnedTupleGo tg (.ref it) u) Q E s:=by
 unfold letOwnedTupleGo
 cases tg<;>first
  |exact wpAny_pure hQ
  |(cases u<;>first
    |exact wpAny_pure hQ
    |(refine wpAny_bind (wpAny_load ho ?_)
      rw[hc,hd]
      show wpAny M A (if(["enumerate","zip","dict_itemiterator","dict_reverseitemiterator","odict_iterator","itertools.zip_longest","itertools.pairwise"].contains n&&vs[0]? ==some (rawInt _))=true then _ else _) Q E s
      rw[if_neg (by intro h;rw[hn,Bool.false_and]at h;cases h)]
      exact wpAny_pure hQ))
def jG(K:PySem.W.Frag)(a:Addr):It:=
 ⟨fun i H=>∃xs x,aF K H a xs/\xs[i]? =some x,fun i H x H'=>H'=H/\∀xs,aF K H a xs->xs[i]? =some x,fun i H=>∃xs,aF K H a xs/\xs.length<=i⟩
theorem Pf{P:Program}{w:World}{K:PySem.W.Frag}{tg:Expr}(a it:Addr):Turn P w K tg (jG K a) [it] it (fun i h=>h.IsListIter it a i) where
 mem:=by simp
 obj:=fun i h st b hb=>by
  have e:b=it:=by simpa using hb
  subst e
  obtain⟨o,e,c,d⟩:=st
  exact⟨o,e,fun v z=>by rw[d]at z;cases z⟩
 keep:=fun i h h' st k=>st.at fun o e=>k it (by simp) o e
 item:=by
  intro X hP hw hK hc i pins s σ H E I hf st hg
  subst hP hw hK
  obtain⟨xs,x,hq,hx⟩:=hg
  obtain⟨its,rv,p,hz⟩:=I.list hq
  obtain⟨u,hu,ru⟩:=rv.get hx
  obtain⟨f0,f1,f2,f3,f4,f5⟩:=hf it (by simp)
  refine wpAny_pyNext_list_item st p.isList (x:=u) (by simpa using hu) fun h' st' sb=>?_
  have I1:Inv X pins σ H {s with heap:=h'}:=I.turned (t':=s.toks) (fun b o hb e=>(sb.2 b hb).trans e) f0 f1 f3 f4 f5
  obtain⟨o,e,c,d⟩:=id st'
  exact⟨u,rfl,Bp (s:={s with heap:=h'}) e c d (by decide) ⟨x,H,I1,ru,⟨rfl,fun ys hy=>by rw[I.JA hy hq];exact hx⟩,st',fun b hb=>(hf b hb).1⟩⟩
 done:=by
  intro X hP hw hK hc i pins s σ H E I hf st hg
  subst hP hw hK
  obtain⟨xs,hq,hx⟩:=hg
  obtain⟨its,rv,p,hz⟩:=I.list hq
  obtain⟨f0,f1,f2,f3,f4,f5⟩:=hf it (by simp)
  have hl:=rv.length
  exact wpAny_pyNext_list_end (I.ok.hd hc) st p.isList (by simp;lia) fun h' eb=>⟨rfl,I.turned (t':=s.toks) (fun b o hb e=>eb b o hb e) f0 f1 f3 f4 f5⟩
 self:=fun _ _ _ _ _ st h=>wpAny_pyIter_listiter st h
end L2
namespace L2
open PySem PySem.Spec PyProof.Rows
section
variable {X:Cx}{tg:Expr}
def Kz(K:PySem.W.Frag)(tl:TE):TI:=fun σ H R=>tl σ H fun x H1=>∃a,x=.ref a/\(∃xs,aF K H1 a xs)/\R (jG K a) H1
theorem oW{l:Expr}{tl:TE}(hl:PE X l tl):PI X tg l (Kz X.K tl):=by
 intro pins s σ H R I h
 refine aJ (hl pins s σ H _ I h) fun v s1 hh14=>?_
 obtain⟨x,H1,I1,r1,q1⟩:=hh14
 obtain⟨a,e,⟨xs,hq⟩,q⟩:=q1
 subst e
 cases r1
 obtain⟨its,rv,p,hz⟩:=I1.list hq
 refine wpAny_pyIter_list p.isList ?_
 refine⟨s1.heap.objs.size,[s1.heap.objs.size],_,_,H1,rfl,I1.kept (t':=s1.toks) fun b o e=>Heap.get?_push_of_some _ e,Pf a _,⟨_,Heap.get?_push_size _ rfl,rfl,rfl⟩,fun b hb=>?_,q⟩
 have e:b=s1.heap.objs.size:=by simpa using hb
 subst e
 exact I1.v5 (Nat.le_refl _) (I1.aA.fresh (Nat.le_refl _))
def J7(wi:TI)(g:TG)(tb:TS):TS:=fun D σ H=>wi σ H fun J H1=>∃W:Nat->Nat->St->Hp->Prop,(∃m,W 0 m σ H1)/\∀i m σ H,W i m σ H->
 (J.stop i H/\D.nx σ H)\/(J.go i H/\∃N:St->Hp->Prop,(∀σ' H',N σ' H'->∃m',m'<m/\W (i+1) m' σ' H')/\∀x H',J.mF i H x H'->g x σ H' fun σ2 H2=>tb {D with nx:=N,ct:=N,bk:=D.nx} σ2 H2)
def qM(fp:List Addr)(h:Heap):List (Addr×Obj):=fp.filterMap fun b=>(h.get? b).map fun o=>(b,o)
theorem wG{fp:List Addr}{h:Heap}{b:Addr}{o:Obj}(hb:b∈fp)(e:h.get? b=some o):(b,o)∈qM fp h:=List.mem_filterMap.mpr ⟨b,hb,by rw[e];rfl⟩
theorem Nz{fp:List Addr}{h:Heap}{p:Addr×Obj}(hp:p∈qM fp h):p.1∈fp/\h.get? p.1=some p.2:=by
 obtain⟨b,hb,e⟩:=List.mem_filterMap.mp hp
 cases q:h.get? b with
 |none=>rw[q]at e;cases e
 |some o=>
  rw[q]at e
  have e':(b,o)=p:=Option.some.inj e
  subst e'
  exact⟨hb,q⟩
theorem Inv.pinned{pins:List (Addr×Obj)}{σ:St}{H:Hp}{s:Shared}{fp:List Addr}(I:Inv X pins σ H s)(hf:∀b∈fp,ic X pins H b)(ho:∀b∈fp,∃o,s.heap.get? b=some o/\∀v,o.data≠ .cell v):Inv X (pins++qM fp s.heap) σ H s:=
 I.C4 fun p hp=>(List.mem_append.mp hp).elim (fun z=>I.pin p (List.mem_append_right _ z)) fun z=>by
  obtain⟨hb,e⟩:=Nz z
  obtain⟨f0,f1,f2,_⟩:=hf p.1 hb
  obtain⟨o,e',d⟩:=ho p.1 hb
  rw[e]at e';cases e'
  exact⟨e,f0,f1,f2,d⟩
theorem Inv.tR{pins pl:List (Addr×Obj)}{σ:St}{H:Hp}{s:Shared}(I:Inv X (pins++pl) σ H s):Inv X pins σ H s:=I.C4 fun p hp=>I.pin p (List.mem_append_right _ (List.mem_append_left _ hp))
theorem E9{iter:Expr}{body:List Stmt}{wi:TI}{g:TG}{tb:TS}{pos:Pos}(hp:PassesOwn (model X.prog X.w) X.A X.env X.xe)(hc:X.calm=true)(hi:PI X tg iter wi)(hg:PG X tg g)(hb:dS X body tb)
  (hs:∀x,foldedSetIterable iter X.env x=pure x:=by intro _;rfl):PS X (.For tg iter body [] pos) (J7 wi g tb):=by
 intro pins s σ H D I h
 refine wpAny_For (aJ (hi pins s σ H _ I h) fun v s1 h1=>aJ h1 fun itv s2 h2=>?_) hs
 obtain⟨it,fp,tn,J,H2,e,I2,T,st2,f2,W,⟨m0,w0⟩,turn⟩:=h2
 subst e
 -- what stays true of the iterator's objects through the loop
 have stat:∀{H':Hp},(∀b∈fp,H' b=none)->∀b∈fp,ic X pins H' b:=fun hn b hb=>⟨hn b hb,(f2 b hb).2⟩
 refine codeAny_forLoop_any (fun n s'=>∃i σ' H',Inv X pins σ' H' s'/\tn i s'.heap/\(∀b∈fp,H' b=none)/\W i n σ' H') ?_ m0 ⟨0,σ,H2,I2,st2,fun b hb=>(f2 b hb).1,w0⟩
 rintro n s3 ⟨i,σ3,H3,I3,st3,fr3,w3⟩
 rcases turn i n σ3 H3 w3 with ⟨stop,qn⟩|⟨go,N,hN,step⟩
 ·refine wpAny_passesOwn hp (aJ (T.done X rfl rfl rfl hc i pins s3 σ3 H3 X.xe I3 (stat fr3) st3 stop) fun r s4 hh15=>?_)
  obtain⟨hr,I4⟩:=hh15
  subst hr
  exact wpAny_execs_nil ⟨σ3,H3,I4,qn⟩
 ·refine wpAny_passesOwn hp (aJ (T.item X rfl rfl rfl hc i pins s3 σ3 H3 X.xe I3 (stat fr3) st3 go) fun r s4 hh16=>?_)
  obtain⟨u,hr,h4⟩:=hh16
  subst hr
  refine wpAny_passesOwn hp (aJ h4 fun _ s5 hh17=>?_)
  obtain⟨x,H5,I5,r5,y5,st5,fr5⟩:=hh17
  have I5':=I5.pinned (stat fr5) (T.obj _ _ st5)
  refine wpAny_passesOwn hp (aJ (hg _ s5 σ3 H5 x u _ I5' r5 (step x H5 y5)) fun _ s6 hh18=>?_)
  obtain⟨σ6,H6,I6,q6⟩:=hh18
  refine wpAny_passesOwn hp (aJ (hb _ s6 σ6 H6 _ I6 q6) fun f s7 q7=>?_)
  have again:∀{σ7:St}{H7:Hp},Inv X (pins++qM fp s5.heap) σ7 H7 s7->N σ7 H7->∃m,m<n/\∃i σ' H',Inv X pins σ' H' s7/\tn i s7.heap/\(∀b∈fp,H' b=none)/\W i m σ' H':=fun{σ7 H7}I7 n7=>by
   obtain⟨m',hm,w7⟩:=hN σ7 H7 n7
   refine⟨m',hm,i+1,σ7,H7,I7.tR,T.keep _ _ _ st5 fun b hb o e=>(I7.pin (b,o) (List.mem_append_right _ (List.mem_append_right _ (wG hb e)))).1,fun b hb=>?_,w7⟩
   obtain⟨o,e,d⟩:=T.obj _ _ st5 b hb
   exact(I7.pin (b,o) (List.mem_append_right _ (List.mem_append_right _ (wG hb e)))).2.1
  cases f with
  |next=>obtain⟨σ7,H7,I7,n7⟩:=q7;exact again I7 n7
  |cont=>obtain⟨σ7,H7,I7,n7⟩:=q7;exact again I7 n7
  |brk=>obtain⟨σ7,H7,I7,q7⟩:=q7;exact⟨σ7,H7,I7.tR,q7⟩
  |ret v=>obtain⟨x7,σ7,H7,I7,r7,q7⟩:=q7;exact⟨x7,σ7,H7,I7.tR,r7,q7⟩
end
theorem G9{K:PySem.W.Frag}{a:Addr}{xs:List V}{g:TG}{tb:TS}{D:Ends}{σ:St}{H:Hp}(Pv:Nat->St->Hp->Prop)(h0:Pv 0 σ H)(hl:∀i σ H,i<=xs.length->Pv i σ H->aF K H a xs)
  (hs:∀i x σ H,xs[i]? =some x->Pv i σ H->g x σ H fun σ2 H2=>tb {D with nx:=Pv (i+1),ct:=Pv (i+1),bk:=D.nx} σ2 H2) (hd:∀σ H,Pv xs.length σ H->D.nx σ H):
  ∃W:Nat->Nat->St->Hp->Prop,(∃m,W 0 m σ H)/\∀i m σ H,W i m σ H->
   ((jG K a).stop i H/\D.nx σ H)\/((jG K a).go i H/\∃N:St->Hp->Prop,(∀σ' H',N σ' H'->∃m',m'<m/\W (i+1) m' σ' H')/\∀x H',(jG K a).mF i H x H'->g x σ H' fun σ2 H2=>tb {D with nx:=N,ct:=N,bk:=D.nx} σ2 H2):=by
 refine⟨fun i m σ H=>m=xs.length-i/\i<=xs.length/\Pv i σ H,⟨xs.length,by simp,Nat.zero_le _,h0⟩,?_⟩
 rintro i m σ H ⟨rfl,hi,p⟩
 have q:=hl i σ H hi p
 by_cases hlt:i<xs.length
 ·refine .inr ⟨⟨xs,xs[i],q,by simp[hlt]⟩,Pv (i+1),fun σ' H' p'=>⟨xs.length-(i+1),by lia,rfl,hlt,p'⟩,fun x H' y=>?_⟩
  obtain⟨e,y⟩:=y
  subst e
  exact hs i x σ _ (y xs q) p
 ·have e:i=xs.length:=by lia
  subst e
  exact .inl ⟨⟨xs,q,Nat.le_refl _⟩,hd σ H p⟩
end L2
namespace L2
open PySem PySem.Spec PyProof.Rows
abbrev R2:=V->V->Hp->VK->Prop
def di(X:Cx)(f:Value->Value->Sem Value)(r:R2):Prop:=
 ∀(pins:List (Addr×Obj))(s:Shared)(σ:St)(H:Hp)(x y:V)(v u:Value)(Q:VK),Inv X pins σ H s->RelV x v->RelV y u->r x y H Q->
  wpAny (model X.prog X.w) X.A (f v u) (EP X pins σ Q) X.xe s
def yI(X:Cx)(f:Value->Sem Value)(r:V->Hp->VK->Prop):Prop:=
 ∀(pins:List (Addr×Obj))(s:Shared)(σ:St)(H:Hp)(x:V)(v:Value)(Q:VK),Inv X pins σ H s->RelV x v->r x H Q->
  wpAny (model X.prog X.w) X.A (f v) (EP X pins σ Q) X.xe s
def jH(X:Cx)(f:Value)(r:List V->Hp->VK->Prop):Prop:=
 ∀(pins:List (Addr×Obj))(s:Shared)(σ:St)(H:Hp)(xs:List V)(us:List Value)(Q:VK),Inv X pins σ H s->aT xs us->r xs H Q->
  wpAny (model X.prog X.w) X.A (call f us) (EP X pins σ Q) X.xe s
def d6(r:R2)(ta tb:TE):TE:=fun σ H Q=>ta σ H fun x H1=>tb σ H1 fun y H2=>r x y H2 Q
def Mj(r:V->Hp->VK->Prop)(ta:TE):TE:=fun σ H Q=>ta σ H fun x H1=>r x H1 Q
def rI(C:Int->Int->Prop)(g:Int->Int->V):R2:=fun x y H Q=>∃i j,x=.int i/\y=.int j/\C i j/\Q (g i j) H
def gG(g:Int->Int->V):R2:=fun x y H Q=>∃i j,x=.int i/\y=.int j/\Q (g i j) H
def rU(g:Int->V):V->Hp->VK->Prop:=fun x H Q=>∃i,x=.int i/\Q (g i) H
section
variable {X:Cx}{a b c:Expr}{ta tb tc:TE}{pos:Pos}
theorem zN(ha:PE X a ta)(hb:PE X b tb){pins:List (Addr×Obj)}{s:Shared}{σ:St}{H:Hp}{R:V->V->Hp->Prop}(I:Inv X pins σ H s)
  (h:ta σ H fun x H1=>tb σ H1 fun y H2=>R x y H2) {Q:Value->Shared->Prop} {f:Value->Value->Sem Value}
  (hf:∀v u s2 x y H2,Inv X pins σ H2 s2->RelV x v->RelV y u->R x y H2->wpAny (model X.prog X.w) X.A (f v u) Q X.xe s2):
  wpAny (model X.prog X.w) X.A (eval a X.env) (fun v s₁=>wpAny (model X.prog X.w) X.A (eval b X.env) (fun u s₂=>wpAny (model X.prog X.w) X.A (f v u) Q X.xe s₂) X.xe s₁) X.xe s:=by
 refine aJ (ha pins s σ H _ I h) fun v s1 hh19=>?_
 obtain⟨x,H1,I1,r1,q1⟩:=hh19
 refine aJ (hb pins s1 σ H1 _ I1 q1) fun u s2 hh20=>?_
 obtain⟨y,H2,I2,r2,q2⟩:=hh20
 exact hf v u s2 x y H2 I2 r1 r2 q2
theorem cY{op:Operator}{r:R2}(ho:di X (binaryOp op) r)(ha:PE X a ta)(hb:PE X b tb):PE X (.BinOp a op b pos) (d6 r ta tb):=by
 intro pins s σ H Q I h
 exact wpAny_BinOp (zN ha hb I h fun v u s2 x y H2 I2 rx ry q=>ho pins s2 σ H2 x y v u Q I2 rx ry q)
theorem Lg{op:UnaryOp}{r:V->Hp->VK->Prop}(ho:yI X (unaryOp op) r)(ha:PE X a ta):PE X (.UnaryOp op a pos) (Mj r ta):=by
 intro pins s σ H Q I h
 exact UnaryOp_ (aJ (ha pins s σ H _ I h) fun v s1⟨x,H1,I1,r1,q1⟩=>ho pins s1 σ H1 x v Q I1 r1 q1)
theorem Kq{f:Value->Value->Sem Value}{C:Int->Int->Prop}{g:Int->Int->Int}
  (rule:∀(i j:Int)(t u:Tok)(s:Shared)(Q:Value->Shared->Prop)(E:Value->Shared->Prop),C i j->Q (.int (g i j) s.toks) {s with toks:=s.toks+1}->wpAny (model X.prog X.w) X.A (f (.int i t) (.int j u)) Q E s):
  di X f (rI C fun i j=>.int (g i j)):=by
 intro pins s σ H x y v u Q I rx ry h
 obtain⟨i,j,rfl,rfl,hc,q⟩:=h
 obtain⟨t,rfl⟩:=rx
 obtain⟨t',rfl⟩:=ry
 exact rule i j t t' s _ _ hc ⟨.int (g i j),H,I.tok _,⟨_,rfl⟩,q⟩
theorem Ee{f:Value->Value->Sem Value}{g:Int->Int->Int}
  (rule:∀(i j:Int)(t u:Tok)(s:Shared)(Q:Value->Shared->Prop)(E:Value->Shared->Prop),Q (.int (g i j) s.toks) {s with toks:=s.toks+1}->wpAny (model X.prog X.w) X.A (f (.int i t) (.int j u)) Q E s):
  di X f (gG fun i j=>.int (g i j)):=by
 intro pins s σ H x y v u Q I rx ry h
 obtain⟨i,j,rfl,rfl,q⟩:=h
 obtain⟨t,rfl⟩:=rx
 obtain⟨t',rfl⟩:=ry
 exact rule i j t t' s _ _ ⟨.int (g i j),H,I.tok _,⟨_,rfl⟩,q⟩
theorem zu{f:Value->Value->Sem Value}{g:Int->Int->Bool}
  (rule:∀(i j:Int)(t u:Tok)(s:Shared)(Q:Value->Shared->Prop)(E:Value->Shared->Prop),Q (.bool (g i j)) s->wpAny (model X.prog X.w) X.A (f (.int i t) (.int j u)) Q E s):
  di X f (gG fun i j=>.bl (g i j)):=by
 intro pins s σ H x y v u Q I rx ry h
 obtain⟨i,j,rfl,rfl,q⟩:=h
 obtain⟨t,rfl⟩:=rx
 obtain⟨t',rfl⟩:=ry
 exact rule i j t t' s _ _ ⟨.bl (g i j),H,I,rfl,q⟩
def zI(i j:Int):Prop:=(-(2^64)<i/\i<2^64)\/(-(2^64)<j/\j<2^64)
theorem zI.ok{i j:Int}(h:zI i j):IntMulOk i j:=by
 rcases h with ⟨h1,h2⟩|⟨h1,h2⟩
 ·exact .of_left (intBits_le_64 h1 h2)
 ·exact .of_right (intBits_le_64 h1 h2)
theorem j0:di X (binaryOp .Add) (gG fun i j=>.int (i+j)):=Ee fun _ _ _ _ _ _ _ q=>add_int q
theorem AI:di X (binaryOp .Sub) (gG fun i j=>.int (i-j)):=Ee fun _ _ _ _ _ _ _ q=>sub_int q
theorem JH:di X (binaryOp .Mult) (rI zI fun i j=>.int (i*j)):=Kq fun _ _ _ _ _ _ _ hc q=>mul_int q hc.ok
theorem Jw{f:Value->Sem Value}{g:Int->Int}
  (rule:∀(i:Int)(t:Tok)(s:Shared)(Q:Value->Shared->Prop)(E:Value->Shared->Prop),Q (.int (g i) s.toks) {s with toks:=s.toks+1}->wpAny (model X.prog X.w) X.A (f (.int i t)) Q E s):
  yI X f (rU fun i=>.int (g i)):=by
 intro pins s σ H x v Q I rx h
 obtain⟨i,rfl,q⟩:=h
 obtain⟨t,rfl⟩:=rx
 exact rule i t s _ _ ⟨.int (g i),H,I.tok _,⟨_,rfl⟩,q⟩
theorem Lb:yI X (unaryOp .USub) (rU fun i=>.int (-i)):=Jw fun _ _ _ _ _ q=>neg_int q
end
def Ft:V->V->Bool
 | .ax,.ax=>true| .ax,.int _=>true| .int _,.ax=>true| .ax,.bl _=>true| .bl _,.ax=>true| .ax,.str _=>true| .str _,.ax=>true
 | .int _,.int _=>true| .bl _,.bl _=>true| .str _,.str _=>true| .eN _,.eN _=>true
 | .int _,.str _=>true| .str _,.int _=>true| .bl _,.str _=>true| .str _,.bl _=>true
 |_,_=>false
def FA:R2:=fun x y H Q=>Ft x y=true/\Q (.bl (decide (x=y))) H
def Jn:R2:=fun x y H Q=>Ft x y=true/\Q (.bl (!decide (x=y))) H
theorem Hh{i j:Int}:decide (V.int i=V.int j)=(i==j):=by
 rw[Bool.eq_iff_iff]
 simp
theorem Ex{i j:Bool}:decide (V.bl i=V.bl j)=(i==j):=by
 rw[Bool.eq_iff_iff]
 simp
theorem lZ{i j:Str}:decide (V.str i=V.str j)=(i==j):=by
 rw[Bool.eq_iff_iff]
 simp
theorem Bu{i j:Array UInt8}:decide (V.eN i=V.eN j)=(i.toList==j.toList):=by
 rw[Bool.eq_iff_iff]
 cases i
 cases j
 simp
section
variable {X:Cx}{a b c:Expr}{ta tb tc:TE}{pos:Pos}
theorem cj{pins:List (Addr×Obj)}{σ:St}{H:Hp}{s:Shared}{Q:VK}{k k':Bool}(I:Inv X pins σ H s)(q:Q (.bl k) H)(e:k=k'):EP X pins σ Q (.bool k') s:=by
 subst e
 exact⟨.bl k,H,I,rfl,q⟩
theorem cq:di X (compareOp .Eq) FA:=by
 intro pins s σ H x y v u Q I rx ry h
 obtain⟨hs,q⟩:=h
 cases x with
 |ax=>
  cases rx
  cases y with
  |ax=>cases ry;exact PySem.EqNone.eq_none_none (cj I q (by simp))
  |bl j=>cases ry;exact PySem.EqNone.eq_none_bool (cj I q (by simp))
  |int j=>obtain⟨t',rfl⟩:=ry;exact PySem.EqNone.eq_none_int (cj I q (by simp))
  |str j=>obtain⟨t',rfl⟩:=ry;exact PySem.EqNone.eq_none_str (cj I q (by simp))
  |_=>exact absurd (show false=true from hs) Bool.false_ne_true
 |bl i=>
  cases rx
  cases y with
  |ax=>cases ry;exact PySem.EqNone.eq_bool_none (cj I q (by simp))
  |bl j=>cases ry;exact eq_bool (cj I q Ex)
  |str j=>obtain⟨t',rfl⟩:=ry;exact PySem.EqMixed.eq_bool_str (cj I q (by simp))
  |_=>exact absurd (show false=true from hs) Bool.false_ne_true
 |int i=>
  obtain⟨t,rfl⟩:=rx
  cases y with
  |ax=>cases ry;exact PySem.EqNone.eq_int_none (cj I q (by simp))
  |int j=>obtain⟨t',rfl⟩:=ry;exact eq_int (cj I q Hh)
  |str j=>obtain⟨t',rfl⟩:=ry;exact PySem.EqMixed.eq_int_str (cj I q (by simp))
  |_=>exact absurd (show false=true from hs) Bool.false_ne_true
 |str i=>
  obtain⟨t,rfl⟩:=rx
  cases y with
  |ax=>cases ry;exact PySem.EqNone.eq_str_none (cj I q (by simp))
  |bl j=>cases ry;exact PySem.EqMixed.eq_str_bool (cj I q (by simp))
  |int j=>obtain⟨t',rfl⟩:=ry;exact PySem.EqMixed.eq_str_int (cj I q (by simp))
  |str j=>obtain⟨t',rfl⟩:=ry;exact eq_str (cj I q lZ)
  |_=>exact absurd (show false=true from hs) Bool.false_ne_true
 |eN i=>
  obtain⟨t,rfl⟩:=rx
  cases y with
  |eN j=>obtain⟨t',rfl⟩:=ry;exact PySem.W.eq_bytes (cj I q Bu)
  |_=>exact absurd (show false=true from hs) Bool.false_ne_true
 |_=>cases y<;>exact absurd (show false=true from hs) Bool.false_ne_true
theorem lB:di X (compareOp .NotEq) Jn:=by
 intro pins s σ H x y v u Q I rx ry h
 obtain⟨hs,q⟩:=h
 cases x with
 |ax=>
  cases rx
  cases y with
  |ax=>cases ry;exact PySem.EqNone.ne_none_none (cj I q (by simp))
  |bl j=>cases ry;exact PySem.EqNone.ne_none_bool (cj I q (by simp))
  |int j=>obtain⟨t',rfl⟩:=ry;exact PySem.EqNone.ne_none_int (cj I q (by simp))
  |str j=>obtain⟨t',rfl⟩:=ry;exact PySem.EqNone.ne_none_str (cj I q (by simp))
  |_=>exact absurd (show false=true from hs) Bool.false_ne_true
 |bl i=>
  cases rx
  cases y with
  |ax=>cases ry;exact PySem.EqNone.ne_bool_none (cj I q (by simp))
  |bl j=>cases ry;exact ne_bool (cj I q (congrArg not Ex))
  |str j=>obtain⟨t',rfl⟩:=ry;exact PySem.EqMixed.ne_bool_str (cj I q (by simp))
  |_=>exact absurd (show false=true from hs) Bool.false_ne_true
 |int i=>
  obtain⟨t,rfl⟩:=rx
  cases y with
  |ax=>cases ry;exact PySem.EqNone.ne_int_none (cj I q (by simp))
  |int j=>obtain⟨t',rfl⟩:=ry;exact ne_int (cj I q (congrArg not Hh))
  |str j=>obtain⟨t',rfl⟩:=ry;exact PySem.EqMixed.ne_int_str (cj I q (by simp))
  |_=>exact absurd (show false=true from hs) Bool.false_ne_true
 |str i=>
  obtain⟨t,rfl⟩:=rx
  cases y with
  |ax=>cases ry;exact PySem.EqNone.ne_str_none (cj I q (by simp))
  |bl j=>cases ry;exact PySem.EqMixed.ne_str_bool (cj I q (by simp))
  |int j=>obtain⟨t',rfl⟩:=ry;exact PySem.EqMixed.ne_str_int (cj I q (by simp))
  |str j=>obtain⟨t',rfl⟩:=ry;exact ne_str (cj I q (congrArg not lZ))
  |_=>exact absurd (show false=true from hs) Bool.false_ne_true
 |eN i=>
  obtain⟨t,rfl⟩:=rx
  cases y with
  |eN j=>obtain⟨t',rfl⟩:=ry;exact PySem.W.ne_bytes (cj I q (congrArg not Bu))
  |_=>exact absurd (show false=true from hs) Bool.false_ne_true
 |_=>cases y<;>exact absurd (show false=true from hs) Bool.false_ne_true
theorem lC:di X (compareOp .Lt) (gG fun i j=>.bl (decide (i<j))):=zu fun _ _ _ _ _ _ _ q=>lt_int q
theorem o1:di X (compareOp .LtE) (gG fun i j=>.bl (decide (i<=j))):=zu fun _ _ _ _ _ _ _ q=>le_int q
theorem jU:di X (compareOp .Gt) (gG fun i j=>.bl (decide (j<i))):=zu fun _ _ _ _ _ _ _ q=>gt_int q
theorem Dy:di X (compareOp .Is) (fun x y H Q=>y=.ax/\Q (.bl (decide (x=.ax))) H):=by
 intro pins s σ H x y v u Q I rx ry h
 obtain⟨rfl,q⟩:=h
 cases ry
 refine is_none_gen (cj I q ?_)
 cases x<;>first
  |(cases rx;rfl)
  |(obtain⟨t,rfl⟩:=rx;rfl)
theorem a4(b:Expr){op:CmpOp}(h:op≠ .In:=by decide)(h2:op≠ .NotIn:=by decide):behindInMarks op b=false:=by
 have e1:(op==CmpOp.In)=false:=by cases op<;>first|rfl|exact absurd rfl h
 have e2:(op==CmpOp.NotIn)=false:=by cases op<;>first|rfl|exact absurd rfl h2
 cases b<;>simp[behindInMarks,e1,e2]
theorem jy{op:CmpOp}{r:R2}(ho:di X (compareOp op) r)(ha:PE X a ta)(hb:PE X b tb)(hm:behindInMarks op b=false):PE X (.Compare a [op] [b] pos) (d6 r ta tb):=by
 intro pins s σ H Q I h
 exact wpAny_Compare1 (zN ha hb I h fun v u s2 x y H2 I2 rx ry q=>ho pins s2 σ H2 x y v u Q I2 rx ry q) hm
def g8(t:TE):TT:=fun σ H Q=>t σ H fun x H'=>∃k,x=.bl k/\Q k H'
theorem a6{op:CmpOp}{r:R2}(ho:di X (compareOp op) r)(ha:PE X a ta)(hb:PE X b tb)(hm:behindInMarks op b=false):PT X (.Compare a [op] [b] pos) (g8 (d6 r ta tb)):=by
 intro pins s σ H Q I h
 refine wpAny_isTrue_Compare1 (aJ (ha pins s σ H _ I h) fun v s1⟨x,H1,I1,r1,q1⟩=>aJ (hb pins s1 σ H1 _ I1 q1) fun u s2⟨y,H2,I2,r2,q2⟩=>
  aJ (ho pins s2 σ H2 x y v u _ I2 r1 r2 q2) fun c s3⟨z,H3,I3,r3,k,e,q3⟩=>?_) hm
 subst e
 cases r3
 exact wpAny_truthy_bool ⟨H3,I3,q3⟩
def N7(r r':R2)(ta tb tc:TE):TE:=fun σ H Q=>ta σ H fun x H1=>tb σ H1 fun y H2=>r x y H2 fun z H3=>∃k,z=.bl k/\
 (if k=true then tc σ H3 fun w' H4=>r' y w' H4 Q else Q (.bl false) H3)
theorem D8{op op':CmpOp}{r r':R2}(ho:di X (compareOp op) r)(ho':di X (compareOp op') r')(ha:PE X a ta)(hb:PE X b tb)(hc:PE X c tc)
  (hm:lastMarks [op,op'] [b,c]=false:=by with_unfolding_all rfl):PE X (.Compare a [op,op'] [b,c] pos) (N7 r r' ta tb tc):=by
 intro pins s σ H Q I h
 refine Compare_chain (aJ (ha pins s σ H _ I h) fun v s1⟨x,H1,I1,r1,q1⟩=>chain_link (aJ (hb pins s1 σ H1 _ I1 q1) fun u s2⟨y,H2,I2,r2,q2⟩=>
  aJ (ho pins s2 σ H2 x y v u _ I2 r1 r2 q2) fun d s3⟨z,H3,I3,r3,k,e,q3⟩=>?_)) hm
 subst e
 cases r3
 refine wpAny_truthy_bool ?_
 cases k with
 |false=>exact ite_ff ⟨.bl false,H3,I3,rfl,q3⟩
 |true=>exact ite_tt (chain_last (aJ (hc pins s3 σ H3 _ I3 q3) fun w' s4⟨z',H4,I4,r4,q4⟩=>ho' pins s4 σ H4 y z' u w' Q I4 r2 r4 q4))
theorem tN:(sizeLine:Nat)<2^63:=by rw[sizeLine_eq];decide
theorem gN:di X (binaryOp .Add) (fun x y H Q=>∃i j,x=.str i/\y=.str j/\i.length+j.length<=sizeLine/\Q (.str (i++j)) H):=by
 intro pins s σ H x y v u Q I rx ry h
 obtain⟨i,j,rfl,rfl,hz,q⟩:=h
 obtain⟨t,rfl⟩:=rx
 obtain⟨t',rfl⟩:=ry
 exact add_str (fun t' tk=>⟨.str (i++j),H,I.tok _,⟨_,rfl⟩,q⟩) hz
theorem vals1{x:V}{us:List Value}(r:aT [x] us):∃u,us=[u]/\RelV x u:=by
 cases r with
 |cons r1 r2=>cases r2;exact⟨_,rfl,r1⟩
theorem vals2{x y:V}{us:List Value}(r:aT [x,y] us):∃u w',us=[u,w']/\RelV x u/\RelV y w':=by
 cases r with
 |cons r1 r2=>
  cases r2 with
  |cons r3 r4=>cases r4;exact⟨_,_,rfl,r1,r3⟩
theorem Ho(hc:X.calm=true):jH X (.builtin "min") (fun xs H Q=>∃i j,xs=[.int i,.int j]/\Q (.int (if j<i then j else i)) H):=by
 intro pins s σ H xs us Q I r h
 obtain⟨i,j,rfl,q⟩:=h
 obtain⟨u,w',rfl,⟨t,rfl⟩,⟨t',rfl⟩⟩:=vals2 r
 refine min_two_ints (I.ok.hd hc) fun h' tk k=>⟨_,H,I.kept k,?_,q⟩
 by_cases hj:j<i
 ·rw[if_pos hj,if_pos hj];exact⟨_,rfl⟩
 ·rw[if_neg hj,if_neg hj];exact⟨_,rfl⟩
theorem M7:jH X (.type "str") (fun xs H Q=>∃i,xs=[.int i]/\i.natAbs.log2<1920/\Q (.str (toString i)) H):=by
 intro pins s σ H xs us Q I r h
 obtain⟨i,rfl,hz,q⟩:=h
 obtain⟨u,rfl,t,rfl⟩:=vals1 r
 exact PySem.P.str_of_int hz ⟨.str _,H,I.tok _,⟨_,rfl⟩,q⟩
theorem Mr:jH X (.builtin "ord") (fun xs H Q=>∃x,xs=[.str x]/\x.length=1/\Q (.int (x.cps.getD 0 0:Nat)) H):=by
 intro pins s σ H xs us Q I r h
 obtain⟨x,rfl,hz,q⟩:=h
 obtain⟨u,rfl,t,rfl⟩:=vals1 r
 exact ord_of_one hz ⟨.int _,H,I.tok _,⟨_,rfl⟩,q⟩
end
end L2
namespace L2
open PySem PySem.Spec PyProof.Rows
structure kx(h:Heap)(x dx C:Addr)(mA:Str->Option Value):Prop where
 obj:h.get? x=some (PySem.W.instObj C dx)
 ns:h.Ns1 dx mA
 ne:dx≠x
theorem BI{h:Heap}{dx:Addr}{mA:Str->Option Value}(n:h.Ns1 dx mA):∃od,h.get? dx=some od/\∀name,PySem.W.lookIn name od=some (mA name):=by
 obtain⟨o,es,ep,ho,hd,hk,_,hm⟩:=n
 refine⟨o,ho,fun name=>?_⟩
 have e:=hm name
 unfold nsFind findBy at e
 rw[<-Array.find?_toList]at e
 unfold PySem.W.lookIn
 rw[hd]
 dsimp only
 split
 ·rename_i y q
  rw[q]at e
  exact congrArg some e
 ·rename_i q
  rw[q]at e
  have a:es.toList.any (·.refKey)=false:=by
   rw[List.any_eq_false]
   intro y hy
   obtain⟨z,t,hkey⟩:=hk y (Array.mem_toList_iff.mp hy)
   simp[DictEntry.refKey,hkey]
  have a':¬es.toList.any (·.refKey)=true:=by rw[a];exact Bool.false_ne_true
  rw[if_neg a']
  exact congrArg some e
theorem kx.look{h:Heap}{x dx C:Addr}{mA:Str->Option Value}(I:kx h x dx C mA):∃od,PySem.W.InstAt h x (PySem.W.instObj C dx) C (some od)/\∀name,PySem.W.lookIn name od=some (mA name):=
 let⟨od,ho,hl⟩:=BI I.ns
 ⟨od,⟨I.obj,rfl,rfl,ho⟩,hl⟩
section
variable {prog:Program}{w:World}{A:Around}{E:Value->Shared->Prop}{s:Shared}{K:PySem.W.Frag}{x dx C f:Addr}{mA:Str->Option Value}{name:Str}{v:Value}
theorem get_map{expr:Bool}{Q:Value->Shared->Prop}(X:K.In s.heap)(I:kx s.heap x dx C mA)(hg:PySem.W.plainGet K C name=true)(hh:PySem.W.hasDictIn K C=true)
  (ha:PySem.W.findIn K (.ref C) name=some none) (hv:mA name=some v) (hv':PySem.W.handedIn v=true) (h:Q v {s with toks:=s.toks+1}):
  wpAny (model prog w) A (getAttr (.ref x) name expr) Q E s:=by
 obtain⟨od,J,hl⟩:=I.look
 exact PySem.W.get_value X J (PySem.W.plainGet_of hg).1 (PySem.W.findObj_own hh ha rfl (by rw[hl,hv])) hv' h
theorem Pc{pl:Sem Bool}{Q:Value×List Value->Shared->Prop}(X:K.In s.heap)(I:kx s.heap x dx C mA)(hg:PySem.W.plainGet K C name=true)
  (hf:PySem.W.findIn K (.ref C) name=some (some (.ref f))) (ht:PySem.W.isFn K (.ref f)=true) (hv:mA name=none) (h:Q (.ref f,[.ref x]) s):
  wpAny (model prog w) A (getMethod (.ref x) name pl) Q E s:=by
 obtain⟨od,J,hl⟩:=I.look
 exact PySem.W.method_fn X J (PySem.W.plainGet_of hg).1 (PySem.W.plainGet_of hg).2 hf (beq_iff_eq.mp ht) (by show(PySem.W.lookIn name od).map (·.isSome)=some false;rw[hl,hv];rfl) h
theorem MX{ns:List Str}{Q:Unit->Shared->Prop}(X:K.In s.heap)(I:kx s.heap x dx C mA)
  (hs:PySem.W.findIn K (.ref C) "__setattr__"=some (some (.builtin "object.__setattr__"))) (hp:PySem.W.plainOver K C=true) (ht:PySem.W.takerIn K C name=some none) (hh:PySem.W.hasDictIn K C=true)
  (hw:PySem.Within mA ns) (hsz:ns.length<=sizeLine)
  (h:∀h',kx h' x dx C (fun y=>if y=name then some v else mA y)->Heap.SameBut dx s.heap h'->Q () {s with heap:=h',toks:=s.toks+2}):
  wpAny (model prog w) A (setAttr (.ref x) name v) Q E s:=by
 obtain⟨od,J,hl⟩:=I.look
 refine PySem.W.set_plain X J hs (PySem.W.osa_open (s:={s with toks:=s.toks+1}) (r:=none) X J hp ht fun b=>?_)
 obtain⟨cd,hc,hd'⟩:=PySem.W.any_some hh
 have hx:s.heap.get? x=some ⟨.ref C,some dx,.plain,#[]⟩:=I.obj
 refine wpAny_bind (wpAny_pure (wpAny_bind (wpAny_bind (wpAny_loadPart hx (wpAny_bind (PySem.W.Looks.here (s:={s with toks:=s.toks+1}) (PySem.W.looks_clsIn X hc) ?_))))))
 rw[hd']
 refine wpAny_pure (a:=some dx) (wpAny_bind (wpAny_pure (wpAny_bind ?_)))
 refine wpAny_nsSet1 (s:={s with toks:=s.toks+1}) I.ns fun h' hn2 hs2=>?_
 obtain⟨oD,esD,epD,hoD,hdD,hcD⟩:=hn2.count (PySem.Within.cons name v hw)
 refine wpAny_bind (wpAny_lookBehind hoD (by rw[hdD];exact pastItsLine_dict (Nat.le_trans hcD (by rw[List.length_cons];lia))) ?_)
 exact wpAny_pure (h _ ⟨(hs2.2 _ (Ne.symm I.ne)).trans I.obj,hn2,I.ne⟩ hs2)
theorem HL{R:Result->Shared->Prop}{vs:List Value}{kw:List (Str×Value)}(X:K.In s.heap)(hm:PySem.W.makesIn K C=true)
  (hi:PySem.W.findIn K (.ref C) "__init__"=some (some (.ref f))) (hf:PySem.W.typeIn K (.ref f)=some (.type "function"))
  (h:codeAny (model prog w) (A.under (.builtin "type.__call__" ⟨.ref C::vs,kw⟩)) (.call (.ref f) ⟨.ref (s.heap.objs.size+1)::vs,kw⟩) (PySem.W.InitBack (s.heap.objs.size+1) R)
   {s with heap:=(s.heap.push PySem.W.emptyDict).push (PySem.W.instObj C s.heap.objs.size)}):
  codeAny (model prog w) A (.call (.ref C) ⟨vs,kw⟩) R s:=by
 obtain⟨hh,g,d,t,os⟩:=s
 exact PySem.W.make_core (PySem.W.makes_of X hm) (PySem.W.looks_findIn X hi) (fun self=>PySem.W.bind_fn X self hf) (.inl rfl) h
end
def cy(f:Str)(v:V):List (Str×V)->List (Str×V)
 |[]=>[(f,v)]
 |(g,x)::r=>if g=f then(g,v)::r else(g,x)::cy f v r
theorem pM(f g:Str)(v:V):∀fs:List (Str×V),(cy f v fs).lookup g=if g=f then some v else fs.lookup g
 |[]=>by
  show List.lookup g [(f,v)]=_
  by_cases h:g=f
  ·have hb:(g==f)=true:=beq_iff_eq.mpr h
   simp only[List.lookup,hb,if_pos h]
  ·have hb:(g==f)=false:=beq_eq_false_iff_ne.mpr h
   simp only[List.lookup,hb,if_neg h]
 |(k,x)::r=>by
  have ih:=pM f g v r
  rw[show cy f v ((k,x)::r)=(if k=f then(k,v)::r else(k,x)::cy f v r)from rfl]
  by_cases hk:k=f
  ·rw[if_pos hk]
   by_cases h:g=k
   ·have hb:(g==k)=true:=beq_iff_eq.mpr h
    simp only[List.lookup,hb,if_pos (h.trans hk)]
   ·have hb:(g==k)=false:=beq_eq_false_iff_ne.mpr h
    simp only[List.lookup,hb,if_neg (fun e:g=f=>h (e.trans hk.symm))]
  ·rw[if_neg hk]
   by_cases h:g=k
   ·have hb:(g==k)=true:=beq_iff_eq.mpr h
    simp only[List.lookup,hb,if_neg (fun e:g=f=>hk (h.symm.trans e))]
   ·have hb:(g==k)=false:=beq_eq_false_iff_ne.mpr h
    simp only[List.lookup,hb]
    exact ih
theorem qD(f:Str)(v:V):∀fs:List (Str×V),f∈(cy f v fs).map (·.1)/\∀g,g∈fs.map (·.1)->g∈(cy f v fs).map (·.1)
 |[]=>⟨by simp[cy],fun g h=>by simp at h⟩
 |(k,x)::r=>by
  obtain⟨i1,i2⟩:=qD f v r
  rw[show cy f v ((k,x)::r)=(if k=f then(k,v)::r else(k,x)::cy f v r)from rfl]
  by_cases hk:k=f
  ·rw[if_pos hk]
   subst hk
   exact⟨by simp,fun g h=>by simpa using h⟩
  ·rw[if_neg hk]
   refine⟨?_,fun g h=>?_⟩
   ·rw[List.map_cons]
    exact List.mem_cons_of_mem _ i1
   ·rw[List.map_cons]at h ⊢
    rcases List.mem_cons.mp h with e|e
    ·exact List.mem_cons.mpr (.inl e)
    ·exact List.mem_cons_of_mem _ (i2 g e)
theorem AF(f:Str)(v:V):∀fs:List (Str×V),(cy f v fs).length<=fs.length+1
 |[]=>by simp[cy]
 |(k,x)::r=>by
  have ih:=AF f v r
  rw[show cy f v ((k,x)::r)=(if k=f then(k,v)::r else(k,x)::cy f v r)from rfl]
  by_cases hk:k=f
  ·rw[if_pos hk,List.length_cons,List.length_cons];lia
  ·rw[if_neg hk,List.length_cons,List.length_cons];lia
theorem dk.some_of{v:V}{o:Option Value}(r:dk (some v) o):∃u,o=some u/\RelV v u:=by
 cases o with
 |none=>exact(show False from r).elim
 |some u=>exact⟨u,rfl,r⟩
theorem dk.none_of{o:Option Value}(r:dk none o):o=none:=by
 cases o with
 |none=>rfl
 |some u=>exact(show False from r).elim
theorem Bw{v:V}{u:Value}(r:RelV v u):PySem.W.handedIn u=true:=by
 cases v with
 |ax=>cases (show u=Value.none from r);rfl
 |bl b=>cases (show u=Value.bool b from r);rfl
 |int i=>obtain⟨t,e⟩:=(show ∃t,u=Value.int i t from r);cases e;rfl
 |str x=>obtain⟨t,e⟩:=(show ∃t,u=Value.str x t from r);cases e;rfl
 |eN b=>obtain⟨t,e⟩:=(show ∃t,u=Value.bytes b t from r);cases e;rfl
 |ku b=>obtain⟨t,e⟩:=(show ∃t,u=Value.float b t from r);cases e;rfl
 |ref a=>cases (show u=Value.ref a from r);rfl
 |ty n=>cases (show u=Value.type n from r);rfl
section
variable {P:Program}{w:World}{H H':Hp}{h h':Heap}{a C dx:Addr}{fs fs':List (Str×V)}
theorem uf(aA:bC P w H h)(e:H a=some (.ins C dx fs)):∃mA,kx h a dx C mA/\(∀f,dk (fs.lookup f) (mA f))/\PySem.Within mA (fs.map (·.1))/\fs.length<=1000/\H dx=some (.own a):=by
 obtain⟨d,z,ne,ob,mA,n,r,q⟩:=(show cu P w H h a (.ins C dx fs)from aA a _ e)
 exact⟨mA,⟨ob,n,ne⟩,r,q,z,d⟩
end
structure eE(K:PySem.W.Frag)(C:Addr):Prop where
 pg:PySem.W.plainGet K C Str.empty=true
 hd:PySem.W.hasDictIn K C=true
 po:PySem.W.plainOver K C=true
 sa:PySem.W.findIn K (.ref C) "__setattr__"=some (some (.builtin "object.__setattr__"))
theorem eE.get{K:PySem.W.Frag}{C:Addr}(c:eE K C)(f:Str):PySem.W.plainGet K C f=true:=c.pg
def bu(K:PySem.W.Frag)(C:Addr)(f:Str):Prop:=PySem.W.findIn K (.ref C) f=some none
theorem bu.Ig{K:PySem.W.Frag}{C:Addr}{f:Str}(n:bu K C f):PySem.W.takerIn K C f=some none:=by
 unfold PySem.W.takerIn
 rw[show PySem.W.findIn K (.ref C) f=some none from n]
 rfl
structure tD(K:PySem.W.Frag)(C:Addr)(m:Str)(f:Addr):Prop where
 at_:PySem.W.findIn K (.ref C) m=some (some (.ref f))
 fn:PySem.W.isFn K (.ref f)=true
 kp:PySem.W.keepIn K (.ref f)=true
section
variable {X:Cx}{pins:List (Addr×Obj)}{σ:St}{H:Hp}{s:Shared}{a C dx:Addr}{fs:List (Str×V)}{f:Str}{v:V}{A:Around}{E:Value->Shared->Prop}
theorem EJ{b:Bool}{Q:Value->Shared->Prop}(I:Inv X pins σ H s)(e:H a=some (.ins C dx fs))(c:eE X.K C)(n:bu X.K C f)(l:fs.lookup f=some v)
  (h:∀u s',Inv X pins σ H s'->RelV v u->Q u s'):wpAny (model X.prog X.w) A (getAttr (.ref a) f b) Q E s:=by
 obtain⟨mA,O,r,_,_,_⟩:=uf I.aA e
 obtain⟨u,hu,ru⟩:=dk.some_of (v:=v) (o:=mA f) (by rw[<-l];exact r f)
 exact get_map I.bp O (c.get f) c.hd n hu (Bw ru) (h u _ (I.tok _) ru)
theorem C5{m:Str}{g:Addr}{pl:Sem Bool}{Q:Value×List Value->Shared->Prop}(I:Inv X pins σ H s)(e:H a=some (.ins C dx fs))(c:eE X.K C)(k:tD X.K C m g)(l:fs.lookup m=none)
  (h:Q (.ref g,[.ref a]) s):wpAny (model X.prog X.w) A (getMethod (.ref a) m pl) Q E s:=by
 obtain⟨mA,O,r,_,_,_⟩:=uf I.aA e
 have hn:mA m=none:=dk.none_of (by rw[<-l];exact r m)
 exact Pc I.bp O (c.get m) k.at_ k.fn hn h
theorem DI{y:V}{u:Value}{Q:Unit->Shared->Prop}(I:Inv X pins σ H s)(e:H a=some (.ins C dx fs))(c:eE X.K C)(n:bu X.K C f)(hl:fs.length<1000)(ry:RelV y u)
  (h:∀s',Inv X pins σ (upd H a (.ins C dx (cy f y fs))) s'->Q () s'):wpAny (model X.prog X.w) A (setAttr (.ref a) f u) Q E s:=by
 obtain⟨mA,O,r,wi,_,ho⟩:=uf I.aA e
 have hz:(fs.map (·.1)).length<=sizeLine:=by rw[List.length_map,sizeLine_eq];lia
 refine MX I.bp O c.sa c.po n.Ig c.hd wi hz fun h' O' sb=>h _ ?_
 have hd:∃o,h'.get? dx=some o:=let⟨o,_,_,e',_⟩:=O'.ns;⟨o,e'⟩
 refine I.write (x:=a) (e:=dx) (by rw[e];exact True.intro) (.inr ho) (fun b q hb z=>(sb.2 b hb).trans z) hd ?_
 refine⟨by rw[ak O.ne];exact ho,?_,O.ne,O'.obj,_,O'.ns,fun g=>?_,fun g hg=>?_⟩
 ·have:=AF f y fs;lia
 ·show dk ((cy f y fs).lookup g) (if g=f then some u else mA g)
  rw[pM]
  by_cases q:g=f
  ·rw[if_pos q,if_pos q];exact ry
  ·rw[if_neg q,if_neg q];exact r g
 ·by_cases q:g=f
  ·rw[q];exact(qD f y fs).1
  ·refine(qD f y fs).2 g (wi g fun z=>hg ?_)
   show(if g=f then some u else mA g)=none
   rw[if_neg q];exact z
theorem Inv.made(I:Inv X pins σ H s):Inv X pins σ (upd (upd H s.heap.objs.size (.own (s.heap.objs.size+1))) (s.heap.objs.size+1) (.ins C s.heap.objs.size []))
  {s with heap:=(s.heap.push PySem.W.emptyDict).push (PySem.W.instObj C s.heap.objs.size)}:=by
 have e1:(s.heap.push PySem.W.emptyDict).get? s.heap.objs.size=some PySem.W.emptyDict:=Heap.get?_push_size s.heap rfl
 have e2:((s.heap.push PySem.W.emptyDict).push (PySem.W.instObj C s.heap.objs.size)).get? (s.heap.objs.size+1)=some (PySem.W.instObj C s.heap.objs.size):=by
  have:=Heap.get?_push_size (s.heap.push PySem.W.emptyDict) (o:=PySem.W.instObj C s.heap.objs.size) rfl
  rwa [Heap.size_push]at this
 have e3:(s.heap.push PySem.W.emptyDict).Ns s.heap.objs.size (fun _=>none):=⟨PySem.W.emptyDict,#[],_,e1,rfl,(fun e he=>absurd he (by simp)),fun _=>rfl⟩
 have I1:=I.laid (a:=s.heap.objs.size) (o:=.own (s.heap.objs.size+1)) (h':=s.heap.push PySem.W.emptyDict) (t':=s.toks) (fun b u q=>Heap.get?_push_of_some _ q) (Nat.le_refl _) ⟨_,e1⟩
 refine I1.laid (a:=s.heap.objs.size+1) (o:=.ins C s.heap.objs.size []) (t':=s.toks) (fun b u q=>Heap.get?_push_of_some _ q) (Nat.le_of_eq (Heap.size_push _ _)) ?_
 have ne:s.heap.objs.size≠s.heap.objs.size+1:=Nat.ne_of_lt (Nat.lt_succ_self _)
 refine⟨by rw[ak ne,aw],Nat.zero_le _,ne,e2,fun _=>none,(Heap.Ns1.of_empty e3).at fun o q=>Heap.get?_push_of_some _ q,fun _=>True.intro,fun y hy=>absurd rfl hy⟩
theorem Ct{prog:Program}{w:World}{env:Env}{e:Expr}{f:Str}{pos:Pos}{s:Shared}{Q:Value->Shared->Prop}(hb:attributeBase e f env (eval e env)=eval e env)
  (h:wpAny (model prog w) A (eval e env) (fun o s₁=>wpAny (model prog w) A (getAttr o f true) Q E s₁) E s):wpAny (model prog w) A (eval (.Attribute e f pos) env) Q E s:=
 Attribute_any_ h (by rw[arm_eval_Attribute,hb])
end
def oO(K:PySem.W.Frag)(ta:TE)(f:Str):TE:=fun σ H Q=>ta σ H fun x H1=>∃a C dx fs v,x=.ref a/\H1 a=some (.ins C dx fs)/\eE K C/\bu K C f/\fs.lookup f=some v/\Q v H1
def Jv(K:PySem.W.Frag)(ta tv:TE)(f:Str):TS:=fun D σ H=>tv σ H fun y H1=>ta σ H1 fun x H2=>∃a C dx fs,x=.ref a/\H2 a=some (.ins C dx fs)/\eE K C/\bu K C f/\fs.length<1000/\
 D.nx σ (upd H2 a (.ins C dx (cy f y fs)))
def yp(X:Cx)(op:Operator)(rd:V->V->Hp->VK->Prop):Prop:=
 ∀(pins:List (Addr×Obj))(s:Shared)(σ:St)(H:Hp)(x y:V)(u v:Value)(Q:VK),Inv X pins σ H s->RelV x u->RelV y v->rd x y H Q->wpAny (model X.prog X.w) X.A (inplaceOp op u v) (EP X pins σ Q) X.xe s
def OC(K:PySem.W.Frag)(ta tv:TE)(rd:V->V->Hp->VK->Prop)(f:Str):TS:=fun D σ H=>ta σ H fun x H1=>∃a C dx fs v,x=.ref a/\H1 a=some (.ins C dx fs)/\eE K C/\bu K C f/\fs.lookup f=some v/\
 tv σ H1 fun y H2=>rd v y H2 fun z H3=>∃dx' fs',H3 a=some (.ins C dx' fs')/\fs'.length<1000/\D.nx σ (upd H3 a (.ins C dx' (cy f z fs')))
section
variable {X:Cx}{o e value:Expr}{f:Str}{pos pos' tpos:Pos}{ta tv:TE}
theorem aD(he:PE X e ta)(hb:attributeBase e f X.env (eval e X.env)=eval e X.env):PE X (.Attribute e f pos) (oO X.K ta f):=by
 intro pins s σ H Q I h
 refine Ct hb (aJ (he pins s σ H _ I h) fun u s1 hh21=>?_)
 obtain⟨x,H1,I1,rx,a,C,dx,fs,v,ex,ea,c,n,l,q⟩:=hh21
 subst ex
 obtain rfl:u=Value.ref a:=rx
 exact EJ I1 ea c n l fun u' s2 I2 ru=>⟨v,H1,I2,ru,q⟩
theorem c6(ha:PE X o ta)(hv:PE X value tv)(hs:swapsWith value (some (.Attribute o f pos')) pos.line X.env=pure false):PS X (.Assign [.Attribute o f pos'] value pos) (Jv X.K ta tv f):=by
 intro pins s σ H D I h
 refine plainObj_wpAny_Assign_Attribute (aJ (hv pins s σ H _ I h) fun u s1⟨y,H1,I1,ry,q⟩=>aJ (ha pins s1 σ H1 _ I1 q) fun ov s2 hh22=>?_) hs
 obtain⟨x,H2,I2,rx,a,C,dx,fs,ex,ea,c,n,l,q2⟩:=hh22
 subst ex
 obtain rfl:ov=Value.ref a:=rx
 exact DI I2 ea c n l ry fun s3 I3=>⟨σ,_,I3,q2⟩
theorem CQ{op:Operator}{rd:V->V->Hp->VK->Prop}(ha:PE X o ta)(hv:PE X value tv)(hop:yp X op rd):PS X (.AugAssign (.Attribute o f tpos) op value pos) (OC X.K ta tv rd f):=by
 intro pins s σ H D I h
 refine wpAny_AugAssign_AttributeAny (aJ (ha pins s σ H _ I h) fun ov s1 hh23=>?_)
 obtain⟨x,H1,I1,rx,a,C,dx,fs,v,ex,ea,c,n,l,q⟩:=hh23
 subst ex
 obtain rfl:ov=Value.ref a:=rx
 refine EJ I1 ea c n l fun u s2 I2 ru=>aJ (hv pins s2 σ H1 _ I2 q) fun w3 s3⟨y,H2,I3,ry,q3⟩=>aJ (hop pins s3 σ H2 v y u w3 _ I3 ru ry q3) fun w4 s4 hh24=>?_
 obtain⟨z,H3,I4,rz,dx',fs',ea',l',q4⟩:=hh24
 exact DI I4 ea' c n l' rz fun s5 I5=>⟨σ,_,I5,q4⟩
def J6:V->V->Hp->VK->Prop:=fun x y H Q=>∃i j,x=.int i/\y=.int j/\Q (.int (i+j)) H
def Pj:V->V->Hp->VK->Prop:=fun x y H Q=>∃i j,x=.int i/\y=.int j/\Q (.int (i-j)) H
theorem KH:yp X .Add J6:=by
 rintro pins s σ H x y u v Q I rx ry ⟨i,j,rfl,rfl,q⟩
 obtain⟨t,rfl⟩:=(show ∃t,u=Value.int i t from rx)
 obtain⟨t',rfl⟩:=(show ∃t',v=Value.int j t' from ry)
 exact PyProof.Rows.iadd_int ⟨.int (i+j),H,I.tok _,⟨_,rfl⟩,q⟩
theorem LA:yp X .Sub Pj:=by
 rintro pins s σ H x y u v Q I rx ry ⟨i,j,rfl,rfl,q⟩
 obtain⟨t,rfl⟩:=(show ∃t,u=Value.int i t from rx)
 obtain⟨t',rfl⟩:=(show ∃t',v=Value.int j t' from ry)
 exact PyProof.Rows.isub_int ⟨.int (i-j),H,I.tok _,⟨_,rfl⟩,q⟩
end
section
variable {X:Cx}{pins:List (Addr×Obj)}{σ:St}{H:Hp}{s:Shared}{A:Around}{E:Value->Shared->Prop}{Q:Value->Shared->Prop}{c:Value}{b:Bool}
inductive dZ(K:PySem.W.Frag)(H:Hp):V->Value->Prop where
 |ax:dZ K H .ax (.type "NoneType")
 |bl (x:Bool):dZ K H (.bl x) (.type "bool")
 |int (i:Int):dZ K H (.int i) (.type "int")
 |str (x:Str):dZ K H (.str x) (.type "str")
 |ku (x:UInt64):dZ K H (.ku x) (.type "float")
 |lst {a:Addr} {xs:List V} (e:H a=some (.lst xs)):dZ K H (.ref a) (.type "list")
 |de {a:Addr} {o:Obj} {xs:List V} (e:H a=some (.de o (.lst xs))):dZ K H (.ref a) (.type "list")
 |tup {a:Addr} {xs:List V} (e:H a=some (.tup xs)):dZ K H (.ref a) (.type "tuple")
 |dK {a:Addr} {kvs:List (Key×V)} (e:H a=some (.dK kvs)):dZ K H (.ref a) (.type "dict")
 |dT {a:Addr} {kvs:List (List Key×V)} (e:H a=some (.dT kvs)):dZ K H (.ref a) (.type "dict")
 |ins {a C dx:Addr} {fs:List (Str×V)} (e:H a=some (.ins C dx fs)) (cl:eE K C) (ha:PySem.W.findIn K (.ref C) "__class__"=some (some (.builtin "object.__class__")))
   (hn:PySem.W.specialIn K (.builtin "object.__class__") "__get__"=some (some (.builtin "getset_descriptor.__get__"))) (htk:PySem.W.takesIn K (.builtin "object.__class__")=some true)
   (hm:PySem.W.mroIn K C (.type "object")=some true):dZ K H (.ref a) (.ref C)
theorem JO{x:V}{u t:Value}(I:Inv X pins σ H s)(rx:RelV x u)(ty:dZ X.K H x t)(e:PySem.W.kitOne X.K t c=some b)(h:∀tk,Q (.bool b) {s with toks:=tk}):
  wpAny (model X.prog X.w) A (call (.builtin "isinstance") [u,c]) Q E s:=by
 cases ty with
 |ax=>cases (show u=Value.none from rx);exact PySem.W.kia_one PySem.W.kitx_none I.bp True.intro e (fun z=>nomatch z) h
 |bl y=>cases (show u=Value.bool y from rx);exact PySem.W.kia_one PySem.W.kitx_bool I.bp True.intro e (fun z=>nomatch z) h
 |int i=>obtain⟨t,q⟩:=(show ∃t,u=Value.int i t from rx);cases q;exact PySem.W.kia_one PySem.W.kitx_int I.bp True.intro e (fun z=>nomatch z) h
 |str y=>obtain⟨t,q⟩:=(show ∃t,u=Value.str y t from rx);cases q;exact PySem.W.kia_one PySem.W.kitx_str I.bp True.intro e (fun z=>nomatch z) h
 |ku y=>obtain⟨t,q⟩:=(show ∃t,u=Value.float y t from rx);cases q;exact PySem.W.kia_one PySem.W.kitx_float I.bp True.intro e (fun z=>nomatch z) h
 | @lst a xs ea=>
  cases (show u=Value.ref a from rx)
  obtain⟨_,_,n,_,h1⟩:=(show cu X.prog X.w H s.heap a (.lst xs)from I.aA a _ ea)
  exact PySem.W.kia_one PySem.W.kitx_list I.bp ⟨_,h1,rfl⟩ e (fun z=>nomatch z) h
 | @de a ob xs ea=>
  cases (show u=Value.ref a from rx)
  obtain⟨_,_,_,n,_,h1⟩:=(show cu X.prog X.w H s.heap a (.de ob (.lst xs))from I.aA a _ ea)
  exact PySem.W.kia_one PySem.W.kitx_list I.bp ⟨_,h1,rfl⟩ e (fun z=>nomatch z) h
 | @tup a xs ea=>
  cases (show u=Value.ref a from rx)
  obtain⟨_,_,_,p⟩:=(show cu X.prog X.w H s.heap a (.tup xs)from I.aA a _ ea)
  obtain⟨o,h1,h2,_⟩:=p
  exact PySem.W.kia_one PySem.W.kitx_tuple I.bp ⟨o,h1,h2⟩ e (fun z=>nomatch z) h
 | @dK a kvs ea=>
  cases (show u=Value.ref a from rx)
  obtain⟨_,_,vs,_,p⟩:=(show cu X.prog X.w H s.heap a (.dK kvs)from I.aA a _ ea)
  obtain⟨o,es,ep,h1,h2,_⟩:=p
  exact PySem.W.kia_one PySem.W.kitx_dict I.bp ⟨o,h1,h2.1⟩ e (fun z=>nomatch z) h
 | @dT a kvs ea=>
  cases (show u=Value.ref a from rx)
  obtain⟨_,_,xs,_,o,es,ep,h1,h2,_⟩:=(show cu X.prog X.w H s.heap a (.dT kvs)from I.aA a _ ea)
  exact PySem.W.kia_one PySem.W.kitx_dict I.bp ⟨o,h1,h2.1⟩ e (fun z=>nomatch z) h
 | @ins a C dx fs ea cl ha hn htk hm=>
  cases (show u=Value.ref a from rx)
  obtain⟨mA,O,_⟩:=uf I.aA ea
  obtain⟨od,J,_⟩:=O.look
  exact PySem.W.kia_one (PySem.W.kitx_own (cl.get _) cl.hd ha hn htk hm) I.bp J e (fun z=>nomatch z) h
end
end L2
namespace L2
open PySem PySem.Spec PyProof.Rows
structure bA(k:Nat)(A:Around):Prop where
 hd:A.handled=none
 dp:A.depth+3*k+5<recursionLimit
 un:A.units+16*k+200<cLine
theorem bA.mono{j k:Nat}{A:Around}(r:bA k A)(h:j<=k):bA j A:=⟨r.hd,by have:=r.dp;lia,by have:=r.un;lia⟩
theorem bA.deeper{k:Nat}{A:Around}(r:bA (k+1) A)(env:Env):bA k (A.deeper env):=
 ⟨r.hd,by have:=r.dp;show A.depth+1+3*k+5<_;lia,by have:=r.un;show A.units+3+16*k+200<_;lia⟩
theorem LQ{A:Around}{C:Addr}{us:List Value}{kw:List (Str×Value)}:(A.under (.builtin "type.__call__" ⟨.ref C::us,kw⟩)).depth=A.depth+1:=by
 first|rfl|simp[Around.under,Code.weight,Code.isCreation,Code.isGuard,Code.isCaller,Code.frames,Code.isFrame,guardIds]
theorem Nj{A:Around}{C:Addr}{us:List Value}{kw:List (Str×Value)}:(A.under (.builtin "type.__call__" ⟨.ref C::us,kw⟩)).units=A.units+1:=by
 first|rfl|simp[Around.under,Code.cUnits,Code.frames,Code.isFrame]
theorem bA.make{k:Nat}{A:Around}(r:bA (k+1) A)(C:Addr)(us:List Value)(kw:List (Str×Value)):bA k (A.under (.builtin "type.__call__" ⟨.ref C::us,kw⟩)):=
 ⟨r.hd,by have:=r.dp;rw[LQ];lia,by have:=r.un;rw[Nj];lia⟩
theorem bA.depth{k:Nat}{A:Around}(r:bA k A):A.depth<recursionLimit:=by have:=r.dp;lia
theorem bA.units{k:Nat}{A:Around}(r:bA k A):A.units+64<cLine:=by have:=r.un;lia
def eC:TA:=fun _ H Q=>Q [] H
def bV(ta:TE)(tr:TA):TA:=fun σ H Q=>ta σ H fun x H1=>tr σ H1 fun xs H2=>Q (x::xs) H2
section
variable {X:Cx}{e:Expr}{es:List Expr}{te:TE}{t:TA}{pos:Pos}
theorem ag:PA X [] eC:=fun _ _ _ _ H Q I h=>Calls.spliced_nil ⟨[],H,I,.nil,h⟩
theorem aa(ha:PE X e te)(hr:PA X es t)(hs:starEach (e::es) X.env=(false,eval e X.env)::starEach es X.env:=by rfl):PA X (e::es) (bV te t):=by
 intro pos pins s σ H Q I h
 rw[hs]
 show wpAny _ _ (spliced ((false,eval e X.env)::backTo pos (starEach es X.env))) _ _ s
 refine Calls.spliced_cons (aJ (ha pins s σ H _ I h) fun u s1 hh25=>?_)
 obtain⟨x,H1,I1,r1,q1⟩:=hh25
 exact aJ (hr pos pins s1 σ H1 _ I1 q1) fun us s2⟨xs,H2,I2,r2,q2⟩=>⟨x::xs,H2,I2,.cons r1 r2,q2⟩
def Ff(t:TA):TE:=fun σ H Q=>t σ H fun xs H1=>xs.length<=sizeLine/\∀p,H1 p=none->Q (.ref p) (upd H1 p (.tup xs))
def Ju(t:TA):TE:=fun σ H Q=>t σ H fun xs H1=>xs.length<=sizeLine/\∀p,H1 p=none->Q (.ref p) (upd H1 p (.lst xs))
theorem kO{x1}(h:PA X es t):PE X (.Tuple es x1 pos) (Ff t):=by
 intro pins s σ H Q I hq
 refine wpAny_Tuple_spliced (aJ (h pos pins s σ H _ I hq) fun us s1⟨xs,H1,I1,r,z,q⟩=>⟨by rw[<-r.length];exact z,?_⟩)
 have hf:H1 s1.heap.objs.size=none:=I1.aA.fresh (Nat.le_refl _)
 refine⟨.ref s1.heap.objs.size,upd H1 s1.heap.objs.size (.tup xs),I1.laid (t':=s1.toks) (fun b u e=>Heap.get?_push_of_some _ e) (Nat.le_refl _) ?_,rfl,q _ hf⟩
 exact⟨z,us,r,⟨_,Heap.get?_push_size _ rfl,rfl,_,rfl⟩⟩
theorem bH(h:PA X es t):PE X (.List es pos) (Ju t):=by
 intro pins s σ H Q I hq
 refine wpAny_List_spliced (aJ (h pos pins s σ H _ I hq) fun us s1⟨xs,H1,I1,r,z,q⟩=>⟨by rw[<-r.length];exact z,?_⟩)
 have hf:H1 s1.heap.objs.size=none:=I1.aA.fresh (Nat.le_refl _)
 refine⟨.ref s1.heap.objs.size,upd H1 s1.heap.objs.size (.lst xs),I1.laid (t':=s1.toks) (fun b u e=>Heap.get?_push_of_some _ e) (Nat.le_refl _) ?_,rfl,q _ hf⟩
 exact⟨z,us,0,r,Heap.get?_push_size _ rfl⟩
end
abbrev Sp:=List V->Hp->VK->XK->Prop
abbrev eg:=List Env->Hp->Shared->XK->Value->Shared->Prop
structure iB(P:Program)(w:World)(K:PySem.W.Frag)(mg:Str->Option Value)(base:Heap)(A:Around)(outer:List Env)(s:Shared)(H:Hp):Prop where
 frames:A.frames=some outer
 mod:Mod K mg base
 bs:∀b o,base.get? b=some o->s.heap.get? b=some o/\H b=none
 fA:base.objs.size<=s.heap.objs.size
 dX:s.heap.FunFrames base outer
 fW:∀b∈cv outer,H b=none
 aA:bC P w H s.heap
 bare:AllBare s.gens
def CE(outer:List Env)(P:Program)(w:World)(H:Hp)(s:Shared)(Q:VK)(u:Value)(s':Shared):Prop:=
 ∃v H',s'.os=s.os/\AllBare s'.gens/\Un (cv outer) [] H H' s.heap s'.heap/\bC P w H' s'.heap/\RelV v u/\Q v H'
def CR(CX:eg)(outer:List Env)(P:Program)(w:World)(H:Hp)(s:Shared)(Q:VK)(E:XK)(r:Result)(s':Shared):Prop:=
 match r with
 | .ok (.ret u)=>CE outer P w H s Q u s'
 | .ok _=>False
 | .error e=>CX outer H s E e s'
structure ay(P:Program)(w:World)(K:PySem.W.Frag)(mg:Str->Option Value)(base:Heap)(CX:eg)(k:Nat)(f:Addr)(fd:FuncData)(ps:List Str)(sp:Sp):Prop where
 len:∀vs H Q E,sp vs H Q E->vs.length=ps.length
 run:∀(A:Around)(outer:List Env)(s:Shared)(H:Hp)(args:Args)(us:List Value)(vs:List V)(Q:VK)(E:XK),bA k A->iB P w K mg base A outer s H->BindsTo s fd args (ps.zip us)->aT vs us->sp vs H Q E->
  codeAny (model P w) A (.call (.ref f) args) (CR CX outer P w H s Q E) s
theorem iB.make{P:Program}{w:World}{K:PySem.W.Frag}{mg:Str->Option Value}{base:Heap}{A:Around}{outer:List Env}{s:Shared}{H:Hp}(e:iB P w K mg base A outer s H)(C:Addr)(us:List Value)(kw:List (Str×Value)):
  iB P w K mg base (A.under (.builtin "type.__call__" ⟨.ref C::us,kw⟩)) outer s H:=⟨by first|exact e.frames|(simpa [Around.under,Code.envs,Code.isFrame,pushEnvs]using e.frames),e.mod,e.bs,e.fA,e.dX,e.fW,e.aA,e.bare⟩
section
variable {X:Cx}{pins:List (Addr×Obj)}{σ:St}{H:Hp}{s s':Shared}
theorem Inv.tw(I:Inv X pins σ H s):iB X.prog X.w X.K X.mg X.base X.A X.stack s H:=
 ⟨I.ok.frames,I.ok.mod,I.bs,Nat.le_trans I.ok.fA I.sz,I.stack,I.vJ,I.aA,I.bare⟩
theorem Inv.after{Q:VK}{u:Value}(I:Inv X pins σ H s)(h:CE X.stack X.prog X.w H s Q u s'):EP X pins σ Q u s':=by
 obtain⟨v,H',os,bare,un,aA,r,q⟩:=h
 obtain⟨hh,g,d,t,os'⟩:=s'
 obtain rfl:os'=s.os:=os
 exact⟨v,H',I.call (h':=hh) (g':=g) (d':=d) (t':=t) (ch:=[]) un aA bare (fun b z=>absurd z (by simp)),r,q⟩
end
def o9(sp:Sp)(dvs:List V)(E:XK)(t:TA):TE:=fun σ H Q=>t σ H fun vs H1=>sp (vs++dvs) H1 Q E
def vC(C:Addr)(m:Str)(sp:Sp)(dvs:List V)(E:XK)(ta:TE)(t:TA):TE:=fun σ H Q=>ta σ H fun x H1=>∃a dx fs,x=.ref a/\H1 a=some (.ins C dx fs)/\fs.lookup m=none/\
 t σ H1 fun vs H2=>sp (x::(vs++dvs)) H2 Q E
def kG(C:Addr)(sp:Sp)(dvs:List V)(E:XK)(t:TA):TE:=fun σ H Q=>t σ H fun vs H1=>∀x dx,H1 x=none->H1 dx=none->dx≠x->
 sp (.ref x::(vs++dvs)) (upd (upd H1 dx (.own x)) x (.ins C dx [])) (fun v H2=>v=.ax/\Q (.ref x) H2) E
def Binds(K:PySem.W.Frag)(fd:FuncData)(ps:List Str)(ds:List Value):Prop:=
 ∀(s:Shared)(us:List Value),K.In s.heap->(us++ds).length=ps.length->BindsTo s fd ⟨us,[]⟩ (ps.zip (us++ds))
theorem Binds.all{K:PySem.W.Frag}{fd:FuncData}{ps:List Str}(h:∀us:List Value,us.length=ps.length->bindArgs fd ⟨us,[]⟩=pure (ps.zip us)):Binds K fd ps []:=fun s us _ hl=>by
 rw[List.append_nil]at hl ⊢
 exact .of_eq (h us hl)
def Passes(CX:eg)(X:Cx)(E:XK):Prop:=∀(pins:List (Addr×Obj))(σ:St)(H:Hp)(s:Shared)(e:Value)(s':Shared),Inv X pins σ H s->CX X.stack H s E e s'->X.xe e s'
section
variable {X:Cx}{CX:eg}{k:Nat}{f C:Addr}{fd:FuncData}{ps:List Str}{sp:Sp}{dvs:List V}{ds:List Value}{E:XK}{x m:Str}{p pos apos:Pos}{e o:Expr}{es:List Expr}{ta:TE}{t:TA}
theorem vx{pins:List (Addr×Obj)}{σ:St}{H:Hp}{s:Shared}{Q:VK}{us:List Value}{vs:List V}(F:ay X.prog X.w X.K X.mg X.base CX k f fd ps sp)(hr:bA k X.A)(hb:Binds X.K fd ps ds)(hd:aT dvs ds)(hx:Passes CX X E)
  (I:Inv X pins σ H s) (r:aT vs us) (h:sp (vs++dvs) H Q E):wpAny (model X.prog X.w) X.A (call (.ref f) us) (EP X pins σ Q) X.xe s:=by
 have r2:aT (vs++dvs) (us++ds):=r.append hd
 have hl:(us++ds).length=ps.length:=by rw[<-r2.length];exact F.len _ _ _ _ h
 refine wpAny_call (codeAny_mono (F.run X.A X.stack s H ⟨us,[]⟩ (us++ds) (vs++dvs) Q E hr I.tw (hb s us I.bp hl) r2 h) fun r s' hq=>?_)
 cases r with
 |error e=>exact hx pins σ H s e s' I hq
 |ok fl=>
  cases fl with
  |ret u=>exact I.after hq
  |next=>exact False.elim hq
  |brk=>exact False.elim hq
  |cont=>exact False.elim hq
theorem J2(F:ay X.prog X.w X.K X.mg X.base CX k f fd ps sp)(hr:bA k X.A)(hg:Gl X x)(hm:X.mg x=some (.ref f))(hk:PySem.W.keepIn X.K (.ref f)=true)(hb:Binds X.K fd ps ds)(hd:aT dvs ds)(hx:Passes CX X E)
  (ha:PA X (e::es) t) (hdb:(x==("__debug__":Str))=false:=by decide) (he:starEach (e::es) X.env=(false,eval e X.env)::starEach es X.env:=by rfl) (hpl:(backTo pos (starEach es X.env)).any (·.1)=false:=by rfl):
  PE X (.Call (.Name x p) (e::es) [] pos) (o9 sp dvs E t):=by
 intro pins s σ H Q I h
 refine wpAny_Call_Name_kw (jg I hg hm ?_ hdb)
 refine PySem.W.callWith_K (h₀:=X.base) I.ok.mod.iW hk (aJ (ha pos pins s σ H _ I h) fun us s1⟨vs,H1,I1,r,q⟩=>⟨I1.bp,?_⟩) he hpl
 exact vx F hr hb hd hx I1 r q
theorem aZ{pl:Sem Bool}(he:PE X o ta)(c:eE X.K C)(hm:tD X.K C m f)(F:ay X.prog X.w X.K X.mg X.base CX k f fd ps sp)(hr:bA k X.A)(hb:Binds X.K fd ps ds)(hd:aT dvs ds)(hx:Passes CX X E)(ha:PA X (e::es) t)
  (hst:starEach (e::es) X.env=(false,eval e X.env)::starEach es X.env:=by rfl) (hpl:(backTo pos (starEach es X.env)).any (·.1)=false:=by rfl)
  (ht:eval (.Call (.Attribute o m apos) (e::es) [] pos) X.env=(do
   let ov <-eval o X.env
   standAt apos.atName
   let(f,first) <-holding [ov] (getMethod ov m pl)
   callWith pos f first (backTo pos (starEach (e::es) X.env)) (backToKw pos (keywordEach [] X.env))):=by rfl):
  PE X (.Call (.Attribute o m apos) (e::es) [] pos) (vC C m sp dvs E ta t):=by
 intro pins s σ H Q I h
 refine PySem.W.methodCall_KW (pl:=pl) (aJ (he pins s σ H _ I h) fun u s1 hh26=>?_) ht
 obtain⟨x,H1,I1,rx,a,dx,fs,ex,ea,l,q⟩:=hh26
 subst ex
 obtain rfl:u=Value.ref a:=rx
 refine C5 I1 ea c hm l ?_
 refine PySem.W.callWith_K (first:=[.ref a]) (h₀:=X.base) I.ok.mod.iW hm.kp (aJ (ha pos pins s1 σ H1 _ I1 q) fun us s2⟨vs,H2,I2,r,q2⟩=>⟨I2.bp,?_⟩) hst hpl
 exact vx (us:=.ref a::us) (vs:=.ref a::vs) F hr hb hd hx I2 (.cons rfl r) q2
theorem cx{pl:Sem Bool}(he:PE X o ta)(c:eE X.K C)(hm:tD X.K C m f)(F:ay X.prog X.w X.K X.mg X.base CX k f fd ps sp)(hr:bA k X.A)(hb:Binds X.K fd ps ds)(hd:aT dvs ds)(hx:Passes CX X E)
  (ht:eval (.Call (.Attribute o m apos) [] [] pos) X.env=(do
   let ov <-eval o X.env
   standAt apos.atName
   let(f,first) <-holding [ov] (getMethod ov m pl)
   callWith pos f first (backTo pos (starEach [] X.env)) (backToKw pos (keywordEach [] X.env))):=by rfl):
  PE X (.Call (.Attribute o m apos) [] [] pos) (vC C m sp dvs E ta eC):=by
 intro pins s σ H Q I h
 refine PySem.W.methodCall_KW (pl:=pl) (aJ (he pins s σ H _ I h) fun u s1 hh27=>?_) ht
 obtain⟨x,H1,I1,rx,a,dx,fs,ex,ea,l,q⟩:=hh27
 subst ex
 obtain rfl:u=Value.ref a:=rx
 refine C5 I1 ea c hm l ?_
 exact PySem.W.callWith_K0 (first:=[.ref a]) I1.bp hm.kp (vx (us:=[.ref a]) (vs:=[.ref a]) F hr hb hd hx I1 (.cons rfl .nil) q)
structure Mk(K:PySem.W.Frag)(C f:Addr):Prop where
 makes:PySem.W.makesIn K C=true
 init:PySem.W.findIn K (.ref C) "__init__"=some (some (.ref f))
 fn:PySem.W.isFn K (.ref f)=true
 kp:PySem.W.keepIn K (.ref C)=true
theorem Eo{pins:List (Addr×Obj)}{σ:St}{H:Hp}{s:Shared}{Q:VK}{us:List Value}{vs:List V}(M:Mk X.K C f)(F:ay X.prog X.w X.K X.mg X.base CX k f fd ps sp)(hr:bA (k+1) X.A)(hb:Binds X.K fd ps ds)(hd:aT dvs ds)
  (hx:Passes CX X E) (I:Inv X pins σ H s) (r:aT vs us)
  (h:∀x dx,H x=none->H dx=none->dx≠x->sp (.ref x::(vs++dvs)) (upd (upd H dx (.own x)) x (.ins C dx [])) (fun v H2=>v=.ax/\Q (.ref x) H2) E):
  wpAny (model X.prog X.w) X.A (call (.ref C) us) (EP X pins σ Q) X.xe s:=by
 have hq:=h (s.heap.objs.size+1) s.heap.objs.size (I.aA.fresh (Nat.le_succ _)) (I.aA.fresh (Nat.le_refl _)) (Nat.ne_of_lt (Nat.lt_succ_self _))
 have I2:=Inv.made (C:=C) I
 have r2:aT (V.ref (s.heap.objs.size+1)::(vs++dvs)) (Value.ref (s.heap.objs.size+1)::(us++ds)):=.cons rfl (r.append hd)
 have hl:(Value.ref (s.heap.objs.size+1)::us++ds).length=ps.length:=by
  have e:=r2.length
  rw[F.len _ _ _ _ hq]at e
  exact e.symm
 refine wpAny_call (HL (f:=f) I.bp M.makes M.init (beq_iff_eq.mp M.fn) (codeAny_mono (F.run _ X.stack _ _ ⟨Value.ref (s.heap.objs.size+1)::us,[]⟩ (Value.ref (s.heap.objs.size+1)::(us++ds)) _ _ E (hr.make C us [])
  (I2.tw.make C us []) (hb _ (Value.ref (s.heap.objs.size+1)::us) I2.bp hl) r2 hq) fun r s' hq'=>?_))
 cases r with
 |error e=>exact hx pins σ _ _ e s' I2 hq'
 |ok fl=>
  cases fl with
  |ret u=>
   obtain⟨v,H',I3,rv,ev,q3⟩:=I2.after hq'
   subst ev
   exact⟨rv,⟨V.ref (s.heap.objs.size+1),H',I3,rfl,q3⟩⟩
  |next=>exact False.elim hq'
  |brk=>exact False.elim hq'
  |cont=>exact False.elim hq'
theorem eP(M:Mk X.K C f)(F:ay X.prog X.w X.K X.mg X.base CX k f fd ps sp)(hr:bA (k+1) X.A)(hg:Gl X x)(hm:X.mg x=some (.ref C))(hb:Binds X.K fd ps ds)(hd:aT dvs ds)(hx:Passes CX X E)
  (ha:PA X (e::es) t) (hdb:(x==("__debug__":Str))=false:=by decide) (he:starEach (e::es) X.env=(false,eval e X.env)::starEach es X.env:=by rfl) (hpl:(backTo pos (starEach es X.env)).any (·.1)=false:=by rfl):
  PE X (.Call (.Name x p) (e::es) [] pos) (kG C sp dvs E t):=by
 intro pins s σ H Q I h
 refine wpAny_Call_Name_kw (jg I hg hm ?_ hdb)
 refine PySem.W.callWith_K (h₀:=X.base) I.ok.mod.iW M.kp (aJ (ha pos pins s σ H _ I h) fun us s1⟨vs,H1,I1,r,q⟩=>⟨I1.bp,?_⟩) he hpl
 exact Eo M F hr hb hd hx I1 r q
theorem Ob(M:Mk X.K C f)(F:ay X.prog X.w X.K X.mg X.base CX k f fd ps sp)(hr:bA (k+1) X.A)(hg:Gl X x)(hm:X.mg x=some (.ref C))(hb:Binds X.K fd ps ds)(hd:aT dvs ds)(hx:Passes CX X E)
  (hdb:(x==("__debug__":Str))=false:=by decide):PE X (.Call (.Name x p) [] [] pos) (kG C sp dvs E eC):=by
 intro pins s σ H Q I h
 refine wpAny_Call_Name_kw (jg I hg hm ?_ hdb)
 exact PySem.W.callWith_K0 I.bp M.kp (Eo (us:=[]) M F hr hb hd hx I .nil h)
end
section
variable {X:Cx}{CX:eg}{k:Nat}{f C:Addr}{fd:FuncData}{ps ks:List Str}{sp:Sp}{E:XK}{x m:Str}{p pos apos kpos:Pos}{e o:Expr}{es:List Expr}{kws:List Keyword}{te ta:TE}{t tk:TA}{nm:Option Str}
variable {g:List Value->List Value->List Value}{gV:List V->List V->List V}
end
structure aI(N P:List Str)(sc:Scope):Prop where
 kind:sc.kind=.function
 co:sc.isCoroutine=false
 gen:sc.isGenerator=false
 nd:N.Nodup
 pre:N.take P.length=P
 par:∀x∈P,sc.names.lookup x=some .local\/sc.names.lookup x=some .cell
 HG:∀y∈sc.names,y.2≠ .free
theorem DS{kindOf:Str->Option NameKind}{x:Str}:∀{binds:List (Str×Value)}{m:Str->Option Value},(∀v,(x,v)∉binds)->bindL kindOf binds m x=m x
 |[],_,_=>rfl
 |(n,v)::r,m,h=>by
  unfold bindL
  rw[DS fun w hw=>h w (List.mem_cons_of_mem _ hw)]
  split
  ·have:x≠n:=by rintro rfl;exact h v List.mem_cons_self
   simp[this]
  ·rfl
theorem Ef{kindOf:Str->Option NameKind}{x:Str}:∀{binds:List (Str×Value)}{m:Str->Option Value},(∀v,(x,v)∉binds)->bindC kindOf binds m x=m x
 |[],_,_=>rfl
 |(n,v)::r,m,h=>by
  unfold bindC
  rw[Ef fun w hw=>h w (List.mem_cons_of_mem _ hw)]
  split
  ·rfl
  ·have:x≠n:=by rintro rfl;exact h v List.mem_cons_self
   simp[this]
theorem Cg{kindOf:Str->Option NameKind}{x:Str}{v:Value}:∀{P:List Str}{vs:List Value}{i:Nat}{m:Str->Option Value},P.Nodup->P[i]? =some x->vs[i]? =some v->kindOf x=some .local->
  bindL kindOf (P.zip vs) m x=some v
 |[],_,_,_,_,h,_,_=>by simp at h
 |_::_,[],_,_,_,_,h,_=>by simp at h
 |p::P,w::vs,0,m,nd,h1,h2,hk=>by
  simp at h1 h2;subst h1;subst h2
  show bindL kindOf ((p,w)::P.zip vs) m p=_
  unfold bindL
  rw[DS fun v hv=>(List.nodup_cons.mp nd).1 (List.of_mem_zip hv).1,if_pos hk]
  simp
 |p::P,w::vs,i+1,m,nd,h1,h2,hk=>by
  show bindL kindOf ((p,w)::P.zip vs) m x=_
  unfold bindL
  exact Cg (i:=i) (List.nodup_cons.mp nd).2 (by simpa using h1) (by simpa using h2) hk
theorem Dl{kindOf:Str->Option NameKind}{x:Str}{v:Value}:∀{P:List Str}{vs:List Value}{i:Nat}{m:Str->Option Value},P.Nodup->P[i]? =some x->vs[i]? =some v->kindOf x≠some .local->
  bindC kindOf (P.zip vs) m x=some v
 |[],_,_,_,_,h,_,_=>by simp at h
 |_::_,[],_,_,_,_,h,_=>by simp at h
 |p::P,w::vs,0,m,nd,h1,h2,hk=>by
  simp at h1 h2;subst h1;subst h2
  show bindC kindOf ((p,w)::P.zip vs) m p=_
  unfold bindC
  rw[Ef fun v hv=>(List.nodup_cons.mp nd).1 (List.of_mem_zip hv).1,if_neg hk]
  simp
 |p::P,w::vs,i+1,m,nd,h1,h2,hk=>by
  show bindC kindOf ((p,w)::P.zip vs) m x=_
  unfold bindC
  exact Dl (i:=i) (List.nodup_cons.mp nd).2 (by simpa using h1) (by simpa using h2) hk
def start(N:List Str)(vs:List V):St:=vs.map some++List.replicate (N.length-vs.length) none
def fN(CX:eg)(P:Program)(w:World)(K:PySem.W.Frag)(mg:Str->Option Value)(base:Heap)(N:List Str)(qual:Str)(scope:Scope)(f:Addr)(cd:Value)(A:Around)(outer:List Env)(s:Shared)(H:Hp)(E:XK):Cx where
 prog:=P
 w:=w
 K:=K
 mg:=mg
 base:=base
 A:=A.deeper (envOfC qual scope s.heap.objs.size f cd)
 N:=N
 b8:=s
 m8:=H
 env:=envOfC qual scope s.heap.objs.size f cd
 outer:=outer
 stack:=envOfC qual scope s.heap.objs.size f cd::outer
 ex:=[]
 calm:=true
 fn:=fun _=>true
 pn:=[]
 xe:=fun e s'=>wpAny (model P w) (A.deeper (envOfC qual scope s.heap.objs.size f cd)) (leaving (envOfC qual scope s.heap.objs.size f cd) e) (fun _ s''=>CX outer H s E e s'') (fun e' s''=>CX outer H s E e' s'') s'
theorem Fc{sc:Scope}{n:Nat}{x:Str}(h:sc.names.lookup x=some .cell):∃c,(cellsFrom n sc.names []).lookup x=some c:=by
 have q:=PySem.W.cellsFrom_some sc.names n [] (.inl h)
 exact Option.isSome_iff_exists.mp q
theorem BE{CX:eg}{P:Program}{w:World}{K:PySem.W.Frag}{mg:Str->Option Value}{base:Heap}{N ps:List Str}{qual:Str}{scope:Scope}{f:Addr}{cd:Value}{A:Around}{outer:List Env}{s s1:Shared}{H:Hp}{E:XK}{us:List Value}{vs:List V}
  (S:aI N ps scope) (hd:A.handled=none) (e0:iB P w K mg base A outer s H) (hl:vs.length=ps.length) (r:aT vs us)
  (x:InCallC s s.heap.objs.size (bindL (envOfC qual scope s.heap.objs.size f cd).kindOf (ps.zip us) fun _=>none) (cellsFrom (s.heap.objs.size+1) scope.names []) (bindC (envOfC qual scope s.heap.objs.size f cd).kindOf (ps.zip us) fun _=>none) s1):
  Inv (fN CX P w K mg base N qual scope f cd A outer s H E) [] (start N vs) H s1:=by
 have hpl:ps.length<=N.length:=by have:=congrArg List.length S.pre;rw[List.length_take]at this;lia
 obtain⟨h1,tk,rfl,hk⟩:=x.done
 have noA:∀b:Addr,b∉(fN CX P w K mg base N qual scope f cd A outer s H E).ex:=fun b z=>absurd (show b∈([]:List Addr)from z) (by simp)
 refine⟨⟨e0.mod,S.kind,rfl,rfl,Nat.le_refl _,fun y z c h1 h2=>?_,fun y hy=>?_,fun y c _ h=>?_,fun _=>hd,Around.frames_deeper e0.frames,.inr ⟨rfl,rfl⟩,fun b z=>absurd z (noA b),e0.bs,e0.fA,fun b _ _=>noA b,fun b z=>absurd z (noA b),e0.dX,e0.fW⟩,
  rfl,e0.bare,Un.kept hk,⟨_,x.toInCall.ns,fun i y v h1 h2 h3=>?_⟩,fun y c h=>⟨_,x.cell y c h⟩,e0.aA.fresh (Nat.le_refl _),fun y c h=>?_,fun p hp=>absurd (show p∈([]:List (Addr×Obj))from hp) (by simp),e0.aA.kept hk,?_⟩
 ·exact name_of_addr x.apart (PySem.mem_of_lookup h1) (PySem.mem_of_lookup h2)
 ·have hy:scope.names.lookup y=some .cell\/scope.names.lookup y=some .free:=hy
  rcases hy with hy|hy
  ·exact Fc hy
  ·exact absurd rfl (S.HG _ (PySem.mem_of_lookup hy))
 ·exact Nat.le_of_lt (x.above y c (PySem.mem_of_lookup h))
 ·have hi:i<vs.length:=by
   unfold start at h2
   by_cases hi:i<vs.length
   ·exact hi
   ·rw[List.getElem?_append_right (by simpa using hi)]at h2
    rw[List.getElem?_replicate]at h2
    split at h2<;>cases h2
  have ha:vs[i]? =some v:=by
   unfold start at h2
   rw[List.getElem?_append_left (by simpa using hi),List.getElem?_map]at h2
   cases e:vs[i]? with
   |none=>rw[e]at h2;cases h2
   |some a=>rw[e]at h2;cases h2;rfl
  obtain⟨u,hu,rv⟩:=r.get ha
  have hp:ps[i]? =some y:=by
   rw[<-S.pre,List.getElem?_take_of_lt (by lia)];exact h1
  have ndP:ps.Nodup:=by rw[<-S.pre];exact S.nd.sublist (List.take_sublist _ _)
  refine⟨u,rv,?_⟩
  rcases S.par y (List.mem_of_getElem? hp)with k|k
  ·exact .inl ⟨k,Cg ndP hp hu k⟩
  ·obtain⟨c,e⟩:=Fc (n:=s.heap.objs.size+1) k
   refine .inr ⟨.inl k,c,e,?_⟩
   have q:=x.cell y c e
   rw[Dl ndP hp hu (by show scope.names.lookup y≠_;rw[k];decide)]at q
   exact q
 ·exact e0.aA.fresh (Nat.le_of_lt (x.above y c (PySem.mem_of_lookup h)))
 ·unfold start
  show _=N.length
  rw[List.length_append,List.length_map,List.length_replicate]
  lia
theorem Bk{CX:eg}{P:Program}{w:World}{K:PySem.W.Frag}{mg:Str->Option Value}{base:Heap}{k:Nat}{f:Addr}{name qual:Str}{params:Arguments}{body:List Stmt}{scope:Scope}{dV kV doc pm cdv ct oc:Value}{an od:Option Addr}
  {osl:Array (Option Value)} {N ps:List Str} {sp:Sp} (lk:K.lookup f=some ⟨oc,od,.func (PySem.W.fnOf name qual params body scope dV kV doc pm an cdv ct),osl⟩) (hcd:PySem.W.codeIn K cdv qual=true) (S:aI N ps scope)
  (len:∀vs H Q E,sp vs H Q E->vs.length=ps.length)
  (hbody:∀(A:Around)(outer:List Env)(s:Shared)(H:Hp)(vs:List V)(Q:VK)(E:XK),bA k (A.deeper (envOfC qual scope s.heap.objs.size f cdv))->sp vs H Q E->
   ∃t,dS (fN CX P w K mg base N qual scope f cdv A outer s H E) body t/\t {nx:=fun _ H'=>Q .ax H',rt:=Q} (start N vs) H):
  ay P w K mg base CX (k+1) f (PySem.W.fnOf name qual params body scope dV kV doc pm an cdv ct) ps sp:=by
 refine⟨len,fun A outer s H args us vs Q E hr e0 hb r hsp=>?_⟩
 have hl:=len _ _ _ _ hsp
 have KX:K.In s.heap:=e0.mod.iW.keeps fun b o e=>(e0.bs b o e).1
 have lim:s.heap.NoLimit:=e0.mod.nolimit.keeps fun b o e=>(e0.bs b o e).1
 have hkind:∀y∈ps.zip us,scope.names.lookup y.1=some .local\/(scope.names.lookup y.1=some .cell/\((cellsFrom (s.heap.objs.size+1) scope.names []).lookup y.1).isSome=true):=fun⟨n,v⟩hy=>by
  rcases S.par n (List.of_mem_zip hy).1 with q|q
  ·exact .inl q
  ·exact .inr ⟨q,PySem.W.cellsFrom_some _ _ _ (.inl q)⟩
 refine codeAny_call_function hr.depth (KX _ _ lk) rfl S.co S.gen rfl (PySem.W.codeRec_of KX hcd) (hb _ _ _ _ ?_)
 refine wpAny_newFunctionEnv_cells S.kind hkind fun env he s1 x=>?_
 subst he
 refine⟨lim.keeps x.toInCall.keep,codeAny_func ?_⟩
 obtain⟨t,ht,hq⟩:=hbody A outer s H vs Q E (hr.deeper _) hsp
 have I:Inv (fN CX P w K mg base N qual scope f cdv A outer s H E) [] (start N vs) H s1:=BE S hr.hd e0 hl r x
 refine wpAny_mono (ht [] s1 (start N vs) H _ I hq) (fun fl s' hs=>?_) fun e s' hs=>hs
 have fin:∀{σ':St}{H':Hp}{v:V}{u:Value},Inv (fN CX P w K mg base N qual scope f cdv A outer s H E) [] σ' H' s'->RelV v u->Q v H'->CE outer P w H s Q u s':=
  fun{σ' H' v u}J rv q=>⟨v,H',J.os,J.bare,J.base,J.aA,rv,q⟩
 cases fl with
 |ret u=>
  obtain⟨v,σ',H',J,rv,q⟩:=hs
  exact fin J rv q
 |next=>
  obtain⟨σ',H',J,q⟩:=hs
  exact fin (v:=V.ax) (u:=Value.none) J rfl q
 |brk=>
  obtain⟨_,_,_,q⟩:=hs
  exact False.elim q
 |cont=>
  obtain⟨_,_,_,q⟩:=hs
  exact False.elim q
end L2
namespace L2
open PySem PySem.Spec PyProof.Rows
section
variable {X:Cx}{x:Str}{p pos:Pos}{e:Expr}{es:List Expr}{t:TA}{id T:String}{r:List V->Hp->VK->Prop}
def rZ(r:List V->Hp->VK->Prop)(t:TA):TE:=fun σ H Q=>t σ H fun vs H1=>r vs H1 Q
theorem jo(hc:jH X (.builtin id) r)(hg:Gl X x)(hm:X.mg x=none)(hv:bootBuiltins x=some (.builtin id))(ha:PA X (e::es) t)(hn:x≠"__name__":=by decide)(hdb:(x==("__debug__":Str))=false:=by decide)
  (he:starEach (e::es) X.env=(false,eval e X.env)::starEach es X.env:=by rfl) (hpl:(backTo pos (starEach es X.env)).any (·.1)=false:=by rfl):PE X (.Call (.Name x p) (e::es) [] pos) (rZ r t):=by
 intro pins s σ H Q I h
 refine wpAny_Call_Name_kw (FK I hg hm hv ?_ hn hdb)
 exact PyProof.Rows.callWith_builtin1 (aJ (ha pos pins s σ H _ I h) fun us s1⟨vs,H1,I1,r1,q1⟩=>hc pins s1 σ H1 vs us Q I1 r1 q1) he hpl
theorem Hv(hc:jH X (.type T) r)(hg:Gl X x)(hm:X.mg x=none)(hv:bootBuiltins x=some (.type T))(ha:PA X (e::es) t)(hn:x≠"__name__":=by decide)(hdb:(x==("__debug__":Str))=false:=by decide)
  (he:starEach (e::es) X.env=(false,eval e X.env)::starEach es X.env:=by rfl) (hpl:(backTo pos (starEach es X.env)).any (·.1)=false:=by rfl):PE X (.Call (.Name x p) (e::es) [] pos) (rZ r t):=by
 intro pins s σ H Q I h
 refine wpAny_Call_Name_kw (FK I hg hm hv ?_ hn hdb)
 exact PyProof.Rows.callWith_type1 (aJ (ha pos pins s σ H _ I h) fun us s1⟨vs,H1,I1,r1,q1⟩=>hc pins s1 σ H1 vs us Q I1 r1 q1) he hpl
end
end L2
namespace HT
open PySem PyProof.Rows
section
open PySem.SeqAt
open PySem.AutoSeq1 (wpAny_loadPart')
open PySem.MeetsSeq PySem.MeetsSeq2 PySem.MeetsSeq3
end
section
variable {prog:Program}{w:World}{A:Around}{E:Value->Shared->Prop}{s:Shared}
def eF(n d:Nat):Option Int->Nat
 |none=>d
 |some v=>if v<0 then(v+(n:Int)).toNat else min v.toNat n
theorem E4(n d k:Nat):eF n d (some (k:Int))=min k n:=by
 show(if(k:Int)<0 then((k:Int)+(n:Int)).toNat else min (k:Int).toNat n)=min k n
 rw[if_neg (by lia),Int.toNat_natCast]
end
end HT
namespace L2
open PySem PySem.Spec PyProof.Rows
abbrev TO:=St->Hp->(Option Int->Hp->Prop)->Prop
def PO(X:Cx)(e:Option Expr)(t:TO):Prop:=
 ∀(pins:List (Addr×Obj))(s:Shared)(σ:St)(H:Hp)(Q:Option Int->Hp->Prop),Inv X pins σ H s->t σ H Q->
  wpAny (model X.prog X.w) X.A (evalPart e X.env) (fun u s'=>∃o H',Inv X pins σ H' s'/\IsPart u o/\Q o H') X.xe s
def rJ(t:TE):TO:=fun σ H Q=>t σ H fun x H1=>∃i,x=.int i/\Q (some i) H1
section
variable {X:Cx}{e:Expr}{te:TE}{lo hi:Option Expr}{tl th:TO}{pos p2:Pos}
theorem vB(h:PE X e te):PO X (some e) (rJ te):=by
 intro pins s σ H Q I hw
 rw[evalPart_some]
 refine aJ (h pins s σ H _ I hw) fun u s1 hh28=>?_
 obtain⟨x,H1,I1,r1,q1⟩:=hh28
 obtain⟨i,rfl,q⟩:=q1
 obtain⟨t,rfl⟩:=r1
 exact⟨some i,H1,I1,.int i t,q⟩
def BU(X:Cx)(r:V->Option Int->Option Int->Hp->VK->Prop):Prop:=
 ∀(pins:List (Addr×Obj))(s:Shared)(σ:St)(H:Hp)(x:V)(v vl vu:Value)(lo hi:Option Int)(sl:Addr)(Q:VK),Inv X pins σ H s->RelV x v->s.heap.IsSliceOf sl vl vu .none->IsPart vl lo->IsPart vu hi->r x lo hi H Q->
  ∃T id,typeLookup (.type T) "__getitem__"=pure (some (.builtin id))/\s.TypeIs v T/\wpAny (model X.prog X.w) X.A (getItem v (.ref sl)) (EP X pins σ Q) X.xe s
def yr(r:V->Option Int->Option Int->Hp->VK->Prop)(te:TE)(tl th:TO):TE:=fun σ H Q=>te σ H fun x H1=>tl σ H1 fun l H2=>th σ H2 fun u H3=>r x l u H3 Q
theorem Cs{r:V->Option Int->Option Int->Hp->VK->Prop}(hr:BU X r)(he:PE X e te)(hl:PO X lo tl)(hu:PO X hi th):PE X (.Subscript e (.Slice lo hi none p2) pos) (yr r te tl th):=by
 intro pins s σ H Q I h
 refine Subscript_ (aJ (he pins s σ H _ I h) fun v s1 hh29=>?_)
 obtain⟨x,H1,I1,r1,q1⟩:=hh29
 refine wpAny_Slice (aJ (hl pins s1 σ H1 _ I1 q1) fun vl s2⟨l,H2,I2,pl,q2⟩=>aJ (hu pins s2 σ H2 _ I2 q2) fun vu s3 hh30=>?_)
 obtain⟨u,H3,I3,pu,q3⟩:=hh30
 rw[evalPart_none]
 refine wpAny_pure ?_
 have I4:Inv X pins σ H3 {s3 with heap:=s3.heap.push {cls:=.type "slice",data:=.fields #[vl,vu,.none]}}:=I3.kept (t':=s3.toks) fun b ob q=>Heap.get?_push_of_some _ q
 obtain⟨T,id,hT,ht,hg⟩:=hr pins {s3 with heap:=s3.heap.push {cls:=.type "slice",data:=.fields #[vl,vu,.none]}} σ H3 x v vl vu l u s3.heap.objs.size Q I4 r1 (Heap.IsSliceOf.new ..) pl pu q3
 show wpAny (model X.prog X.w) X.A (subscriptTail e (.Slice lo hi none p2) v (.ref s3.heap.objs.size)) (EP X pins σ Q) X.xe {s3 with heap:=s3.heap.push {cls:=.type "slice",data:=.fields #[vl,vu,.none]}}
 exact tail_any (ops:=[.ref s3.heap.objs.size,v]) ht hT hg (by with_unfolding_all rfl)
def jF(xs:List V)(lo hi:Option Int):List V:=(xs.drop (HT.eF xs.length 0 lo)).take (HT.eF xs.length xs.length hi-HT.eF xs.length 0 lo)
theorem OJ(xs:List V)(lo hi:Option Int):(jF xs lo hi).length<=xs.length:=by
 unfold jF
 rw[List.length_take,List.length_drop]
 lia
end
end L2
namespace L2
open PySem PySem.Spec PyProof.Rows
def mP(n:Nat)(i:Int):Option Nat:=if 0<=i then(if i<n then some i.toNat else none)else if -(n:Int)<=i then some (i+n).toNat else none
def kK{α:Type}(xs:List α)(i:Int):Option α:=(mP xs.length i).bind fun j=>xs[j]?
theorem ME{n:Nat}{i:Int}{j:Nat}(h:mP n i=some j):seqIndex? i n=some j/\j<n∧-(n:Int)<=i/\i<n:=by
 unfold mP at h
 by_cases h0:0<=i
 ·rw[if_pos h0]at h
  by_cases h1:i<n
  ·rw[if_pos h1]at h
   have e:i.toNat=j:=Option.some.inj h
   exact⟨by rw[seqIndex_of h0 h1,e],by lia,by lia,h1⟩
  ·rw[if_neg h1]at h;cases h
 ·rw[if_neg h0]at h
  by_cases h1: -(n:Int)<=i
  ·rw[if_pos h1]at h
   have e:(i+n).toNat=j:=Option.some.inj h
   exact⟨by rw[seqIndex_neg (by lia) h1,e],by lia,h1,by lia⟩
  ·rw[if_neg h1]at h;cases h
theorem Cc{α:Type}{xs:List α}{i:Int}{v:α}(h:kK xs i=some v):∃j,seqIndex? i xs.length=some j/\xs[j]? =some v/\j<xs.length∧-(xs.length:Int)<=i/\i<xs.length:=by
 unfold kK at h
 cases e:mP xs.length i with
 |none=>rw[e]at h;cases h
 |some j=>
  rw[e]at h
  obtain⟨h1,h2,h3,h4⟩:=ME e
  exact⟨j,h1,h,h2,h3,h4⟩
theorem xC{α:Type}{xs:List α}{j:Nat}{v:α}(h:xs[j]? =some v):kK xs (j:Int)=some v:=by
 have hj:j<xs.length:=(List.getElem?_eq_some_iff.mp h).1
 have e:mP xs.length (j:Int)=some j:=by
  unfold mP
  rw[if_pos (by lia),if_pos (by lia)];simp
 unfold kK;rw[e];exact h
def LI(b:Expr):Prop:=∀o i,subscripted b false o i=operate [o,i] (getItem o i)
def wu(X:Cx)(r:R2):Prop:=
 ∀(value slice:Expr)(pins:List (Addr×Obj))(s:Shared)(σ:St)(H:Hp)(x y:V)(v u:Value)(Q:VK),Inv X pins σ H s->RelV x v->RelV y u->r x y H Q->
  subscripted slice false v u=operate [v,u] (getItem v u)->wpAny (model X.prog X.w) X.A (subscriptTail value slice v u) (EP X pins σ Q) X.xe s
def AB(X:Cx)(id:String)(r:V->List V->Hp->VK->Prop):Prop:=
 ∀(pins:List (Addr×Obj))(s:Shared)(σ:St)(H:Hp)(x:V)(xs:List V)(v:Value)(us:List Value)(Q:VK),Inv X pins σ H s->RelV x v->aT xs us->r x xs H Q->
  wpAny (model X.prog X.w) X.A (call (.builtin id) (v::us)) (EP X pins σ Q) X.xe s
section
variable {X:Cx}{a b:Expr}{ta tb:TE}{pos:Pos}
theorem eQ{r:R2}(hr:wu X r)(ha:PE X a ta)(hb:PE X b tb)(hs:LI b):PE X (.Subscript a b pos) (d6 r ta tb):=by
 intro pins s σ H Q I h
 exact Subscript_ (zN ha hb I h fun v u s2 x y H2 I2 rx ry q=>hr a b pins s2 σ H2 x y v u Q I2 rx ry q (hs _ _))
def Du(K:PySem.W.Frag):R2:=fun x y H Q=>∃p xs i v,x=.ref p/\y=.int i/\aF K H p xs/\kK xs i=some v/\Q v H
def Li:R2:=fun x y H Q=>∃z i c,x=.str z/\y=.int i/\z.length<=sizeLine/\kK z.cps.toList i=some c/\Q (.str ⟨#[c]⟩) H
theorem fG:wu X (Du X.K):=by
 intro value slice pins s σ H x y v u Q I rx ry h hs
 obtain⟨p,xs,i,z,rfl,rfl,hq,he,q⟩:=h
 cases rx
 obtain⟨t,rfl⟩:=ry
 obtain⟨its,r,pl,hz⟩:=I.list hq
 obtain⟨j,h1,h2,h3,h4,h5⟩:=Cc he
 obtain⟨w,ew,rw'⟩:=r.get h2
 have hl:=r.length
 have hn:=tN
 have fin:EP X pins σ Q w s:=⟨z,H,I,rw',q⟩
 by_cases h0:0<=i
 ·have hj:i.toNat=j:=by
   rw[seqIndex_of h0 h5]at h1
   exact Option.some.inj h1
  exact item_listR pl.isList h0 (by lia) (by rw[hj];simpa using ew) fin hs
 ·have hj:(i+(its.toArray.size:Int)).toNat=j:=by
   rw[seqIndex_neg (by lia) h4]at h1
   rw[List.size_toArray,<-hl]
   exact Option.some.inj h1
  exact subscriptTail_builtinR (x:=w) pl.isList.typeIs slot_list_getitem.lookup
   (wpAny_getItem_list_neg (Q:=fun r s'=>r=w/\EP X pins σ Q r s') pl.isList (by lia) (by rw[List.size_toArray]<;>lia) (by lia) (by rw[hj];simpa using ew) ⟨rfl,fin⟩) hs
theorem EY:wu X Li:=by
 intro value slice pins s σ H x y v u Q I rx ry h hs
 obtain⟨z,i,c,rfl,rfl,hz,he,q⟩:=h
 obtain⟨t,rfl⟩:=rx
 obtain⟨t',rfl⟩:=ry
 obtain⟨j,h1,h2,h3,h4,h5⟩:=Cc he
 have hl:z.cps.toList.length=z.length:=by simp[Str.length]
 rw[hl]at h1 h4 h5
 have hn:=tN
 exact tail_any (typeIs_str s z t) slot_str_getitem.lookup (getItem_str (c:=c) (by
  have e1:decide (i< -(2^63:Int))=false:=decide_eq_false (by lia)
  have e2:decide (i>=2^63)=false:=decide_eq_false (by lia)
  rw[e1,e2,Bool.or_false]) (by rw[h1];simpa using h2) ⟨.str ⟨#[c]⟩,H,I.tok _,⟨_,rfl⟩,q⟩) hs
theorem Mm(lo hi:Option Int)(n:Nat):(sliceBounds lo hi none n).1=((HT.eF n 0 lo:Nat):Int)/\(sliceBounds lo hi none n).2.1=((HT.eF n n hi:Nat):Int)/\(sliceBounds lo hi none n).2.2=1:=by
 refine⟨?_,?_,rfl⟩
 ·cases lo with
  |none=>simp[sliceBounds,HT.eF]
  |some i=>
   simp only[sliceBounds,HT.eF,Option.getD_none,show(1:Int)>0 by decide,if_true]
   by_cases h:i<0
   ·simp only[h,if_true]<;>lia
   ·simp only[h,if_false]<;>lia
 ·cases hi with
  |none=>simp[sliceBounds,HT.eF]
  |some i=>
   simp only[sliceBounds,HT.eF,Option.getD_none,show(1:Int)>0 by decide,if_true]
   by_cases h:i<0
   ·simp only[h,if_true]<;>lia
   ·simp only[h,if_false]<;>lia
theorem Ka(its:List Value)(lo hi:Option Int):slicePick its.toArray lo hi none=((its.drop (HT.eF its.length 0 lo)).take (HT.eF its.length its.length hi-HT.eF its.length 0 lo)).toArray:=by
 obtain⟨h1,h2,h3⟩:=Mm lo hi its.toArray.size
 unfold slicePick
 rw[h1,h2,h3]
 simp only[sliceRange_one,pick_run,List.size_toArray]<;>rfl
def zZ(K:PySem.W.Frag):V->Option Int->Option Int->Hp->VK->Prop:=fun x lo hi H Q=>∃a xs,x=.ref a/\aF K H a xs/\∀p,H p=none->Q (.ref p) (upd H p (.lst (jF xs lo hi)))
theorem DH:BU X (zZ X.K):=by
 intro pins s σ H x v vl vu lo hi sl Q I rx hs pl pu h
 obtain⟨a,xs,rfl,hx,q⟩:=h
 cases rx
 obtain⟨its,r,ht,hz⟩:=I.list hx
 have hlen:=r.length
 refine⟨"list",_,slot_list_getitem.lookup,ht.isList.typeIs,?_⟩
 refine wpAny_getItem_list_slice ht.isList hs pl pu .none (by simp) ?_ (by rw[List.size_toArray]<;>lia)
 rw[Ka,<-hlen]
 refine⟨.ref s.heap.objs.size,_,I.laid (t':=s.toks) (o:=.lst (jF xs lo hi)) (fun b ob q=>Heap.get?_push_of_some _ q) (Nat.le_refl _) ?_,rfl,q _ (I.aA.fresh (Nat.le_refl _))⟩
 exact⟨Nat.le_trans (OJ xs lo hi) hz,_,0,(r.drop (HT.eF xs.length 0 lo)).take (HT.eF xs.length xs.length hi-HT.eF xs.length 0 lo),Heap.get?_push_size _ rfl⟩
def iM:V->Bool
 | .ax=>true
 | .bl _=>true
 | .int _=>true
 | .str _=>true
 |_=>false
def j3:V->V->Bool
 | .ax,.ax=>true
 | .bl a,.bl b=>a==b
 | .bl a,.int b=>(if a then 1 else 0)==b
 | .int a,.bl b=>a==(if b then 1 else 0)
 | .int a,.int b=>a==b
 | .str a,.str b=>a==b
 |_,_=>false
theorem KL{A:Around}{s:Shared}{y x:V}{u v:Value}(ry:RelV y u)(rx:RelV x v)(fy:iM y=true)(fx:iM x=true):SeqAt.EqAt A s u v (j3 y x):=by
 cases y with
 |ax=>
  cases ry
  cases x with
  |ax=>cases rx;exact SeqAt.EqAt.same _
  |bl b=>cases rx;exact SeqAt.EqAt.none_bool b
  |int b=>obtain⟨t,rfl⟩:=rx;exact SeqAt.EqAt.none_int b t
  |str b=>obtain⟨t,rfl⟩:=rx;exact SeqAt.EqAt.none_str b t
  |_=>exact absurd (show false=true from fx) Bool.false_ne_true
 |bl a=>
  cases ry
  cases x with
  |ax=>cases rx;exact SeqAt.EqAt.bool_none a
  |bl b=>cases rx;exact SeqAt.EqAt.bool_bool a b
  |int b=>obtain⟨t,rfl⟩:=rx;exact SeqAt.EqAt.bool_int a b t
  |str b=>obtain⟨t,rfl⟩:=rx;exact SeqAt.EqAt.bool_str a b t
  |_=>exact absurd (show false=true from fx) Bool.false_ne_true
 |int a=>
  obtain⟨t',rfl⟩:=ry
  cases x with
  |ax=>cases rx;exact SeqAt.EqAt.int_none a t'
  |bl b=>cases rx;exact SeqAt.EqAt.int_bool a t' b
  |int b=>obtain⟨t,rfl⟩:=rx;exact SeqAt.EqAt.int_int a t' b t
  |str b=>obtain⟨t,rfl⟩:=rx;exact SeqAt.EqAt.int_str a t' b t
  |_=>exact absurd (show false=true from fx) Bool.false_ne_true
 |str a=>
  obtain⟨t',rfl⟩:=ry
  cases x with
  |ax=>cases rx;exact SeqAt.EqAt.str_none a t'
  |bl b=>cases rx;exact SeqAt.EqAt.str_bool a t' b
  |int b=>obtain⟨t,rfl⟩:=rx;exact SeqAt.EqAt.str_int a t' b t
  |str b=>obtain⟨t,rfl⟩:=rx;exact SeqAt.EqAt.str_str a t' b t
  |_=>exact absurd (show false=true from fx) Bool.false_ne_true
 |_=>exact absurd (show false=true from fy) Bool.false_ne_true
def iQ(x:V)(u:Value):Bool:=match u with
 | .none=>j3 .ax x
 | .bool b=>j3 (.bl b) x
 | .int i _=>j3 (.int i) x
 | .str z _=>j3 (.str z) x
 |_=>false
theorem Bl{x y:V}{u:Value}(r:RelV y u)(f:iM y=true):iQ x u=j3 y x:=by
 cases y with
 |ax=>cases r;rfl
 |bl b=>cases r;rfl
 |int i=>obtain⟨t,rfl⟩:=r;rfl
 |str z=>obtain⟨t,rfl⟩:=r;rfl
 |_=>exact absurd (show false=true from f) Bool.false_ne_true
theorem yi{x:V}:∀{xs:List V}{us:List Value},aT xs us->xs.all iM=true->us.any (iQ x)=xs.any fun y=>j3 y x
 |_,_,.nil,_=>rfl
 |y::xs,u::us,.cons r t,f=>by
  rw[List.all_cons,Bool.and_eq_true]at f
  rw[List.any_cons,List.any_cons,Bl r f.1,yi t f.2]
theorem y0{A:Around}{s:Shared}{x:V}{v:Value}(rx:RelV x v)(fx:iM x=true):∀{xs:List V}{us:List Value},aT xs us->xs.all iM=true->∀u∈us,SeqAt.EqAt A s u v (iQ x u)
 |_,_,.nil,_=>fun u hu=>by cases hu
 |y::xs,u::us,.cons r t,f=>fun u' hu=>by
  rw[List.all_cons,Bool.and_eq_true]at f
  rcases List.mem_cons.mp hu with rfl|hu
  ·rw[Bl r f.1];exact KL r rx f.1 fx
  ·exact y0 rx fx t f.2 u' hu
def dY(x:V)(xs:List V):Bool:=xs.any fun y=>j3 y x
def Df(K:PySem.W.Frag)(neg:Bool):R2:=fun x y H Q=>∃p xs,y=.ref p/\(aF K H p xs\/fq K H p xs)/\iM x=true/\xs.all iM=true/\Q (.bl (if neg then !dY x xs else dY x xs)) H
theorem q5:di X (compareOp .In) (Df X.K false):=by
 intro pins s σ H x y v u Q I rx ry h
 obtain⟨p,xs,rfl,hq,fx,fs,q⟩:=h
 cases ry
 rcases hq with hq|hq
 ·obtain⟨its,r,pl,hz⟩:=I.list hq
  refine SeqAt.in_listAt (iQ x) pl.isList (fun w hw=>y0 rx fx r fs w (by simpa using hw)) ⟨.bl _,H,I,rfl,?_⟩
  rw[show its.toArray.any (iQ x)=its.any (iQ x) by simp,yi r fs]
  exact q
 ·obtain⟨its,r,pl,hz⟩:=I.tuple hq
  refine SeqAt.in_tupleAt (iQ x) pl (fun w hw=>y0 rx fx r fs w (by simpa using hw)) ⟨.bl _,H,I,rfl,?_⟩
  rw[show its.toArray.any (iQ x)=its.any (iQ x) by simp,yi r fs]
  exact q
theorem wo:jH X (.builtin "len") (fun xs H Q=>∃p ys,xs=[.ref p]/\(aF X.K H p ys\/fq X.K H p ys)/\Q (.int ys.length) H):=by
 intro pins s σ H xs us Q I r h
 obtain⟨p,ys,rfl,hq,q⟩:=h
 obtain⟨u,rfl,rx⟩:=vals1 r
 cases rx
 have hn:=tN
 rcases hq with hq|hq
 ·obtain⟨its,r',pl,hz⟩:=I.list hq
  have hlen:=r'.length
  exact Calls.call_len_list pl.isList (by simp only[List.size_toArray]<;>lia) ⟨.int ys.length,H,I.tok _,⟨s.toks+1,by rw[List.size_toArray,hlen]⟩,q⟩
 ·obtain⟨its,r',pl,hz⟩:=I.tuple hq
  have hlen:=r'.length
  exact len_tuple pl (by simp only[List.size_toArray]<;>lia) ⟨.int ys.length,H,I.tok _,⟨s.toks+1,by rw[List.size_toArray,hlen]⟩,q⟩
theorem FN:jH X (.builtin "len") (fun xs H Q=>∃z,xs=[.str z]/\z.length<=sizeLine/\Q (.int z.length) H):=by
 intro pins s σ H xs us Q I r h
 obtain⟨z,rfl,hz,q⟩:=h
 obtain⟨u,rfl,t,rfl⟩:=vals1 r
 have hn:=tN
 exact len_str (by lia) ⟨.int z.length,H,I.tok _,⟨_,rfl⟩,q⟩
def Ez(K:PySem.W.Frag)(T:String)(x:V)(H:Hp):Prop:=match x with
 | .str _=>T="str"
 | .int _=>T="int"
 | .ref p=>(T="list"/\∃xs,aF K H p xs)\/(T="tuple"/\∃o,K.lookup p=some o/\o.cls=.type "tuple"/\o.dict=none)\/
   (T="dict"/\((∃kvs,H p=some (.dK kvs))\/∃kvs,H p=some (.dT kvs)))\/(T="set"/\∃S n,H p=some (.set S n))
 |_=>False
theorem NX{pins:List (Addr×Obj)}{σ:St}{H:Hp}{s:Shared}{T:String}{x:V}{v:Value}(I:Inv X pins σ H s)(r:RelV x v)(ty:Ez X.K T x H):
  s.TypeIs v T/\∀a,v=.ref a->∃ob,s.heap.get? a=some ob/\ob.dict=none:=by
 cases x with
 |str z=>
  obtain⟨t,rfl⟩:=r
  cases (show T="str" from ty)
  exact⟨typeIs_str s z t,fun _ e=>nomatch e⟩
 |int i=>
  obtain⟨t,rfl⟩:=r
  cases (show T="int" from ty)
  exact⟨typeIs_int s i t,fun _ e=>nomatch e⟩
 |ref p=>
  cases r
  rcases ty with ⟨rfl,xs,hq⟩|⟨rfl,o,hk,hc,hd⟩|⟨rfl,hk⟩|⟨rfl,S,n,hk⟩
  ·obtain⟨its,_,pl,_⟩:=I.list hq
   refine⟨pl.isList.typeIs,fun a e=>?_⟩
   cases e
   obtain⟨o,n,e,c,hd,_⟩:=pl
   exact⟨o,e,hd⟩
  ·refine⟨⟨o,I.bp p o hk,hc⟩,fun a e=>?_⟩
   cases e
   exact⟨o,I.bp _ o hk,hd⟩
  ·have z:∃o,s.heap.get? p=some o/\o.ExactDict:=by
    rcases hk with ⟨kvs,hk⟩|⟨kvs,hk⟩
    ·obtain⟨_,_,_,_,o,_,_,e,ex,_⟩:=I.aA p _ hk
     exact⟨o,e,ex⟩
    ·obtain⟨_,_,_,_,o,_,_,e,ex,_⟩:=I.aA p _ hk
     exact⟨o,e,ex⟩
   obtain⟨o,e,ex⟩:=z
   refine⟨⟨o,e,ex.1⟩,fun a e2=>?_⟩
   cases e2
   exact⟨o,e,ex.2.1⟩
  ·obtain⟨o,_,_,_,e,ex,_⟩:=I.aA p _ hk
   refine⟨⟨o,e,ex.1⟩,fun a e2=>?_⟩
   cases e2
   exact⟨o,e,ex.2.1⟩
 |_=>exact False.elim ty
def HU(K:PySem.W.Frag)(T:String)(r:V->List V->Hp->VK->Prop)(to:TE)(t:TA):TE:=fun σ H Q=>to σ H fun x H1=>Ez K T x H1/\t σ H1 fun xs H2=>r x xs H2 Q
variable {o e:Expr}{es:List Expr}{to:TE}{t:TA}{name:Str}{apos cpos:Pos}{T id:String}{r:V->List V->Hp->VK->Prop}
theorem dv(pa:PlainAttrs T)(slot:Slot T name id)(hty:typeOf (.builtin id)=pure (.type "method_descriptor"))(hm:AB X id r)(ho:PE X o to)(ha:PA X (e::es) t)
  (hbase:attributeBase o name X.env (eval o X.env)=eval o X.env:=by rfl)
  (hfew:((backTo cpos (starEach (e::es) X.env)).all (fun x=> !x.1)&&(backToKw cpos (keywordEach [] X.env)).all (fun x=>x.1.isSome)
   &&decide ((e::es).length+([]:List Keyword).length+(if([]:List Keyword).isEmpty then 0 else 1)<30))=true:=by rfl)
  (hline:(apos.endLine==cpos.line)=true:=by rfl) (hs:starEach (e::es) X.env=(false,eval e X.env)::starEach es X.env:=by rfl) (hplain:(backTo cpos (starEach es X.env)).any (·.1)=false:=by rfl):
  PE X (.Call (.Attribute o name apos) (e::es) [] cpos) (HU X.K T r to t):=by
 intro pins s σ H Q I h
 refine wpAny_Call_method_late hbase hfew hline rfl (aJ (ho pins s σ H _ I h) fun v s1 hh31=>?_)
 obtain⟨x,H1,I1,r1,ty,q1⟩:=hh31
 obtain⟨h1,h2⟩:=NX I1 r1 ty
 refine⟨T,id,pa,slot,hty,h1,h2,?_⟩
 have hA:=ha cpos pins s1 σ H1 _ I1 q1
 rw[hs]at hA ⊢
 refine Calls.callWith_builtin (by show(false||(backTo cpos (starEach es X.env)).any (·.1))=false;rw[hplain]<;>rfl) (Calls.evalArgs_plain ?_)
 exact aJ hA fun us s2⟨vs,H2,I2,r2,q2⟩=>hm pins s2 σ H2 x vs v us Q I2 r1 r2 q2
end
end L2
namespace L2
open PySem PySem.Spec PyProof.Rows
def GZ(X:Cx)(id:String)(r:V->List V->Hp->VK->Prop):Prop:=
 ∀(pins:List (Addr×Obj))(s:Shared)(σ:St)(H:Hp)(x:V)(xs:List V)(v:Value)(us:List Value)(Q:VK),Inv X pins σ H s->RelV x v->aT xs us->r x xs H Q->
  wpAny (model X.prog X.w) X.A (call (.builtin id) (v::us)) (EP X pins σ Q) X.xe s
theorem aT.one:∀{x:V}{us:List Value},aT [x] us->∃u,us=[u]/\RelV x u
 |_,_,.cons r .nil=>⟨_,rfl,r⟩
section
variable {X:Cx}{pins:List (Addr×Obj)}{σ:St}{H:Hp}{s:Shared}{l b:Addr}{xs ys zs:List V}
theorem Inv.BB{its its':List Value}{n:Nat}{f:Array Value->Array Value}{t':Nat}(I:Inv X pins σ H s)(hH:H l=some (.lst xs))
  (e:s.heap.get? l=some {cls:=.type "list",data:=.seq its.toArray n}) (hf:f its.toArray=its'.toArray) (hv:aT ys its') (hz:ys.length<=sizeLine):
  Inv X pins σ (upd H l (.lst ys)) {s with heap:=s.heap.update l (Obj.mapSeq f),toks:=t'}:=by
 have q:=PySem.IsL.update e f
 rw[hf]at q
 refine I.write (x:=l) (e:=l) (by rw[hH];exact trivial) (.inl rfl) (fun b' u hb hu=>(Heap.get?_update_other s.heap (Obj.mapSeq f) (Ne.symm hb)).trans hu) ⟨_,q⟩ ?_
 exact⟨hz,its',_,hv,q⟩
theorem Inv.K7{its:List Value}{t':Nat}(I:Inv X pins σ H s)(hv:aT ys its)(hz:ys.length<=sizeLine):
  Inv X pins σ (upd H s.heap.objs.size (.lst ys)) {s with heap:=s.heap.push {cls:=.type "list",data:=.seq its.toArray},toks:=t'}:=
 I.laid (fun _ _ q=>Heap.get?_push_of_some _ q) (Nat.le_refl _) ⟨hz,its,0,hv,Heap.get?_push_size _ rfl⟩
theorem Inv.fresh(I:Inv X pins σ H s):H s.heap.objs.size=none:=I.aA.fresh (Nat.le_refl _)
theorem Inv.r6(I:Inv X pins σ H s)(hH:H l=some (.lst xs)):xs.length<=sizeLine/\∃(its:List Value)(n:Nat),aT xs its/\xs.length=its.length/\s.heap.get? l=some {cls:=.type "list",data:=.seq its.toArray n}:=by
 obtain⟨z,its,n,r,e⟩:=I.aA l _ hH
 exact⟨z,its,n,r,r.length,e⟩
theorem Qu{n:Nat}(h:n<=sizeLine):Builtin.List.listTooLong n=false:=by
 unfold Builtin.List.listTooLong
 exact decide_eq_false (by lia)
end
section
variable {X:Cx}
def Ih:V->List V->Hp->VK->Prop:=fun x vs H Q=>∃l xs y,x=.ref l/\vs=[y]/\H l=some (.lst xs)/\xs.length<sizeLine/\Q .ax (upd H l (.lst (xs++[y])))
theorem eB:GZ X "list.append" Ih:=by
 intro pins s σ H x vs v us Q I rx rv h
 obtain⟨l,xs,y,rfl,rfl,hH,hz,q⟩:=h
 cases rx
 obtain⟨u,rfl,ru⟩:=rv.one
 obtain⟨z,its,n,r,hl,e⟩:=I.r6 hH
 refine call_meets F.slot_list_append ⟨_,e,rfl⟩ F.entry_list_append (F.args_list_append_2 _ _) (PySem.list_append l its.toArray n u (by rw[List.size_toArray];lia)) ⟨e,?_⟩
 refine⟨.ax,_,I.BB (its':=its++[u]) hH e (by simp) (r.append (.cons ru .nil)) ?_,rfl,q⟩
 rw[List.length_append,List.length_singleton]
 lia
def Pk:V->List V->Hp->VK->Prop:=fun x vs H Q=>∃l b xs zs,x=.ref l/\vs=[.ref b]/\H l=some (.lst xs)/\H b=some (.lst zs)/\xs.length+zs.length<=sizeLine/\Q .ax (upd H l (.lst (xs++zs)))
theorem qp:GZ X "list.extend" Pk:=by
 intro pins s σ H x vs v us Q I rx rv h
 obtain⟨l,b,xs,zs,rfl,rfl,hH,hB,hz,q⟩:=h
 cases rx
 obtain⟨u,rfl,ru⟩:=rv.one
 cases ru
 obtain⟨z,its,n,r,hl,e⟩:=I.r6 hH
 obtain⟨z2,its2,n2,r2,hl2,e2⟩:=I.r6 hB
 have hsz:its.toArray.size+its2.toArray.size<=sizeLine:=by rw[List.size_toArray,List.size_toArray];lia
 have hlong:¬(!its.toArray.isEmpty&&Builtin.List.listTooLong (its.toArray.size+its2.toArray.size))=true:=by
  rw[Qu hsz,Bool.and_false]
  exact Bool.false_ne_true
 refine call_meets F.slot_list_extend ⟨_,e,rfl⟩ F.entry_list_extend (F.args_list_extend_2 _ _)
  (AutoSeq1.list_extend_list_list_0 l its.toArray n b its2.toArray n2 hlong (by rw[List.size_toArray];lia) (by lia)) ⟨e,e2,?_⟩
 refine⟨.ax,_,I.BB (its':=its++its2) hH e (by simp) (r.append r2) ?_,rfl,q⟩
 rw[List.length_append]
 lia
def JJ:R2:=fun x y H Q=>∃l b xs zs,x=.ref l/\y=.ref b/\H l=some (.lst xs)/\H b=some (.lst zs)/\xs.length+zs.length<=sizeLine/\∀p,H p=none->Q (.ref p) (upd H p (.lst (xs++zs)))
theorem JZ:di X (binaryOp .Add) JJ:=by
 intro pins s σ H x y v u Q I rx ry h
 obtain⟨l,b,xs,zs,rfl,rfl,hH,hB,hz,q⟩:=h
 cases rx
 cases ry
 obtain⟨z,its,n,r,hl,e⟩:=I.r6 hH
 obtain⟨z2,its2,n2,r2,hl2,e2⟩:=I.r6 hB
 refine PySem.P.add_list e e2 ?_ (by rw[List.size_toArray,List.size_toArray];lia)
 have ea:its.toArray++its2.toArray=(its++its2).toArray:=by simp
 rw[ea]
 exact⟨.ref _,_,I.K7 (t':=s.toks) (r.append r2) (by rw[List.length_append];lia),rfl,q _ I.fresh⟩
end
section
variable {prog:Program}{w:World}{A:Around}{E:Value->Shared->Prop}{s:Shared}
set_option maxRecDepth 100000 in
end
section
variable {X:Cx}
end
end L2
namespace L2
open PySem PySem.Spec PyProof.Rows
section
variable {prog:Program}{w:World}{A:Around}{E:Value->Shared->Prop}{s:Shared}{l:Addr}{its:List Value}{ns:List Int}{Q:Value->Shared->Prop}
end
section
variable {X:Cx}
end
section
variable {X:Cx}
end
section
variable {X:Cx}
end
section
variable {X:Cx}
end
section
variable {X:Cx}{pins:List (Addr×Obj)}{σ:St}{H:Hp}{s:Shared}
end
section
variable {X:Cx}
end
end L2
namespace L2
open PySem PySem.Spec PyProof.Rows
abbrev Gh(h:Heap)(c:Addr)(v:Option Value):Prop:=h.IsCell c v
def Pg(scope sc:Scope):Scope:=
 {scope with names:=scope.names.map fun(n,k)=>if(k== .free&&sc.kind== .function&&sc.names.lookup n==some .cell)then(n,.cell)else(n,k)}
def dz(cells:List (Str×Addr)):List (Str×NameKind)->List (Str×Addr)->List (Str×Addr)
 |[],acc=>acc
 |(n,k)::r,acc=>if k== .free then dz cells r ((n,(cells.lookup n).getD 0)::acc)else dz cells r acc
theorem BC(env:Env)(f:Str×NameKind->List (Str×Addr)->Sem (ForInStep (List (Str×Addr))))
  (hf:∀n k c,f (n,k) c=if k== .free then(do let a <-cellOf env n;pure (.yield ((n,a)::c)))else pure (.yield c)):
  ∀(names:List (Str×NameKind))(acc:List (Str×Addr)),(∀y∈names,y.2=.free->∃c,env.cells.lookup y.1=some c)->forIn names acc f=pure (dz env.cells names acc)
 |[],acc,_=>by rw[List.forIn_nil];rfl
 |(n,k)::r,acc,h=>by
  rw[List.forIn_cons,hf]
  have ih:=fun acc=>BC env f hf r acc fun y hy=>h y (List.mem_cons_of_mem _ hy)
  unfold dz
  by_cases hk:(k==NameKind.free)=true
  ·rw[if_pos hk,if_pos hk]
   obtain⟨c,hc⟩:=h (n,k) List.mem_cons_self (by simpa using hk)
   have e:cellOf env n=pure c:=by unfold cellOf;rw[hc]
   rw[e]
   have e2:(env.cells.lookup n).getD 0=c:=by rw[hc];rfl
   rw[e2]
   exact ih _
  ·rw[if_neg hk,if_neg hk]
   exact ih _
theorem OS{scope:Scope}{env:Env}(h:∀y∈scope.names,y.2=.free->∃c,env.cells.lookup y.1=some c):closureFor scope env=pure (dz env.cells scope.names []):=by
 simp only[closureFor]
 rw[BC env _ (fun n k c=>rfl) scope.names [] h]
 rfl
theorem mem_lookup{α:Type}:∀{l:List (Str×α)}{n:Str}{c:α},(n,c)∈l->∃c',l.lookup n=some c'
 |(k,v)::r,n,c,h=>by
  rw[List.lookup_cons]
  cases hb:n==k with
  |true=>exact⟨_,rfl⟩
  |false=>
   rcases List.mem_cons.mp h with e|h
   ·cases e;simp at hb
   ·exact mem_lookup h
theorem uG{cells:List (Str×Addr)}:∀{names:List (Str×NameKind)}{acc:List (Str×Addr)}{n:Str}{c:Addr},(n,c)∈dz cells names acc->(n,c)∈acc\/((n,.free)∈names/\c=(cells.lookup n).getD 0)
 |[],_,_,_,h=>.inl h
 |(m,k)::r,acc,n,c,h=>by
  unfold dz at h
  split at h
  ·rename_i hk
   have hk:k=.free:=by simpa using hk
   rcases uG h with h|⟨h1,h2⟩
   ·rcases List.mem_cons.mp h with e|h
    ·cases e;exact .inr ⟨hk▸List.mem_cons_self,rfl⟩
    ·exact .inl h
   ·exact .inr ⟨List.mem_cons_of_mem _ h1,h2⟩
  ·rcases uG h with h|⟨h1,h2⟩
   ·exact .inl h
   ·exact .inr ⟨List.mem_cons_of_mem _ h1,h2⟩
theorem xy{cells:List (Str×Addr)}:∀{names:List (Str×NameKind)}{acc:List (Str×Addr)}{p:Str×Addr},p∈acc->p∈dz cells names acc
 |[],_,_,h=>h
 |(m,k)::r,acc,p,h=>by
  unfold dz
  split
  ·exact xy (List.mem_cons_of_mem _ h)
  ·exact xy h
theorem xi{cells:List (Str×Addr)}:∀{names:List (Str×NameKind)}{acc:List (Str×Addr)}{n:Str},(n,.free)∈names->(n,(cells.lookup n).getD 0)∈dz cells names acc
 |(m,k)::r,acc,n,h=>by
  unfold dz
  rcases List.mem_cons.mp h with e|h
  ·cases e
   exact xy List.mem_cons_self
  ·split
   ·exact xi h
   ·exact xi h
theorem sr:∀{names:List (Str×NameKind)}{h:Heap}{acc:List (Str×Addr)}{x:Str}{c:Addr},(x,c)∈cellsFrom h.objs.size names acc->
  (x,c)∈acc\/((x,.cell)∈names/\h.objs.size<=c/\Gh (pushCells h names) c none)
 |[],_,_,_,_,h=>.inl h
 |(n,k)::r,h,acc,x,c,hm=>by
  unfold cellsFrom at hm
  unfold pushCells
  split at hm
  ·rename_i hk
   rw[if_pos hk]
   have hk:k=.cell:=by simpa using hk
   rw[<-Heap.size_push h {cls:=.type "cell",data:=.cell none}]at hm
   rcases sr hm with hm|⟨h1,h2,h3⟩
   ·rcases List.mem_cons.mp hm with e|hm
    ·cases e
     exact .inr ⟨hk▸List.mem_cons_self,Nat.le_refl _,_,pushCells_keeps r _ _ _ (Heap.get?_push_size _ rfl),rfl⟩
    ·exact .inl hm
   ·rw[Heap.size_push]at h2
    exact .inr ⟨List.mem_cons_of_mem _ h1,Nat.le_of_succ_le h2,h3⟩
  ·rename_i hk
   rw[if_neg hk]
   rcases sr hm with hm|⟨h1,h2,h3⟩
   ·exact .inl hm
   ·exact .inr ⟨List.mem_cons_of_mem _ h1,h2,h3⟩
theorem ud:∀{names:List (Str×NameKind)}{n:Nat}{acc:List (Str×Addr)}{p:Str×Addr},p∈acc->p∈cellsFrom n names acc
 |[],_,_,_,h=>h
 |(m,k)::r,n,acc,p,h=>by
  unfold cellsFrom
  split
  ·exact ud (List.mem_cons_of_mem _ h)
  ·exact ud h
theorem yc:∀{names:List (Str×NameKind)}{n:Nat}{acc:List (Str×Addr)}{x:Str},(x,.cell)∈names->∃c,(x,c)∈cellsFrom n names acc
 |(m,k)::r,n,acc,x,h=>by
  unfold cellsFrom
  rcases List.mem_cons.mp h with e|h
  ·cases e
   exact⟨n,ud List.mem_cons_self⟩
  ·split
   ·exact yc h
   ·exact yc h
theorem Ak:∀{names:List (Str×NameKind)}{h:Heap}{acc:List (Str×Addr)}{x y:Str}{c:Addr},(∀p∈acc,p.2<h.objs.size)->(∀x y c,(x,c)∈acc->(y,c)∈acc->x=y)->
  (x,c)∈cellsFrom h.objs.size names acc->(y,c)∈cellsFrom h.objs.size names acc->x=y
 |[],_,_,_,_,_,_,hi,h1,h2=>hi _ _ _ h1 h2
 |(n,k)::r,h,acc,x,y,c,hl,hi,h1,h2=>by
  unfold cellsFrom at h1 h2
  split at h1
  ·rename_i hk
   rw[if_pos hk]at h2
   rw[<-Heap.size_push h {cls:=.type "cell",data:=.cell none}]at h1 h2
   refine Ak (h:=h.push _) (fun p hp=>?_) (fun x y c a b=>?_) h1 h2
   ·rw[Heap.size_push]
    rcases List.mem_cons.mp hp with rfl|hp
    ·exact Nat.lt_succ_self _
    ·exact Nat.lt_succ_of_lt (hl p hp)
   ·rcases List.mem_cons.mp a with e|a<;>rcases List.mem_cons.mp b with e'|b
    ·cases e;cases e';rfl
    ·cases e;exact absurd (hl _ b) (Nat.lt_irrefl _)
    ·cases e';exact absurd (hl _ a) (Nat.lt_irrefl _)
    ·exact hi _ _ _ a b
  ·rename_i hk
   rw[if_neg hk]at h2
   exact Ak hl hi h1 h2
theorem Nh{M:Model}{A:Around}{E:Value->Shared->Prop}{s:Shared}{scope:Scope}{globals:Addr}{closure:List (Str×Addr)}{qual:Str}{func:Option Addr}{code:Value}{around:Env}{builtins:Addr}{Q:Env->Shared->Prop}
  (h:Q (newEnv scope s.heap.objs.size globals (cellsFrom (s.heap.objs.size+1) scope.names closure) qual func code (some around) builtins)
   {s with heap:=pushCells (s.heap.push {cls:=.type "dict",data:=.dict #[]}) scope.names}):
  wpAny M A (newFunctionEnv scope globals closure [] qual func code (some around) builtins) Q E s:=by
 simp only[newFunctionEnv,Option.isSome_some,if_true]
 refine wpAny_bind (wpAny_alloc ?_)
 refine wpAny_bind (wpAny_layCells _ (fun n k c=>rfl) scope.names closure _ _ ?_)
 rw[show({s with heap:=s.heap.push {cls:=.type "dict",data:=.dict #[]}}:Shared).heap.objs.size=s.heap.objs.size+1 from Heap.size_push ..]
 rw[List.forIn_nil]
 exact wpAny_bind (wpAny_pure (wpAny_pure h))
theorem wZ{sc:Scope}:∀{names:List (Str×NameKind)}{x:Str}{k:NameKind},
  (names.map fun(n,k)=>if(k==NameKind.free&&sc.kind== .function&&sc.names.lookup n==some .cell)then(n,NameKind.cell)else(n,k)).lookup x=some k->
  ∃k',names.lookup x=some k'/\(k=k'\/(k'=.free/\k=.cell))
 |[],_,_,h=>by simp at h
 |(n,k₀)::r,x,k,h=>by
  have ih:= @wZ sc r x k
  have h':List.lookup x ((if(k₀==NameKind.free&&sc.kind== .function&&sc.names.lookup n==some .cell)=true then(n,NameKind.cell)else(n,k₀))::(r.map _))=some k:=h
  cases hx:x==n with
  |true=>
   simp only[List.lookup_cons,hx]
   by_cases hc:(k₀==NameKind.free&&sc.kind== .function&&sc.names.lookup n==some .cell)=true
   ·rw[if_pos hc]at h'
    simp only[List.lookup_cons,hx]at h'
    cases h'
    simp only[Bool.and_eq_true,beq_iff_eq]at hc
    exact⟨k₀,rfl,.inr ⟨hc.1.1,rfl⟩⟩
   ·rw[if_neg hc]at h'
    simp only[List.lookup_cons,hx]at h'
    cases h'
    exact⟨_,rfl,.inl rfl⟩
  |false=>
   simp only[List.lookup_cons,hx]
   by_cases hc:(k₀==NameKind.free&&sc.kind== .function&&sc.names.lookup n==some .cell)=true
   ·rw[if_pos hc]at h'
    simp only[List.lookup_cons,hx]at h'
    exact ih h'
   ·rw[if_neg hc]at h'
    simp only[List.lookup_cons,hx]at h'
    exact ih h'
structure iX(N:List Str)(sc scope:Scope)(own:List (Str×Nat)):Prop where
 kind:scope.kind=.function
 uniq:∀y∈scope.names,scope.names.lookup y.1=some y.2
 ix:∀p∈own,N[p.2]? =some p.1
 free:∀y∈scope.names,y.2=.free->sc.names.lookup y.1=some .cell\/sc.names.lookup y.1=some .free
 own:∀y∈scope.names,y.2=.local\/y.2=.cell->y.1∈own.map (·.1)\/y.1∉N
def wipe(σ:St):List Nat->St
 |[]=>σ
 |v::vs=>(wipe σ vs).set v none
theorem zp(σ:St):∀vs:List Nat,(wipe σ vs).length=σ.length
 |[]=>rfl
 |v::vs=>by unfold wipe;rw[List.length_set,zp σ vs]
theorem Au{σ:St}{i:Nat}{x:V}:∀{vs:List Nat},(wipe σ vs)[i]? =some (some x)->σ[i]? =some (some x)/\i∉vs
 |[],h=>⟨h,by simp⟩
 |v::vs,h=>by
  unfold wipe at h
  by_cases hi:v=i
  ·subst hi
   by_cases hv:v<(wipe σ vs).length
   ·rw[List.getElem?_set_self hv]at h;cases h
   ·rw[List.getElem?_eq_none (by simpa using hv)]at h;cases h
  ·rw[List.getElem?_set_ne hi]at h
   obtain⟨h1,h2⟩:=Au h
   exact⟨h1,by simp only[List.mem_cons,not_or];exact⟨fun e=>hi e.symm,h2⟩⟩
abbrev Cx.eG(X:Cx)(s:Shared)(H:Hp)(scope:Scope)(cenv:Env)(fp:List Addr):Cx:={X with b8:=s,m8:=H,env:=cenv,outer:=X.stack,ex:=fp,fn:=fun x=>scope.names.lookup x==some .cell,pn:=[],xe:=fun _ _=>False}
section
variable {X:Cx}{pins:List (Addr×Obj)}{σ:St}{H:Hp}{s:Shared}
theorem IT{scope:Scope}{own:List (Str×Nat)}{fp:List Addr}(I:Inv X pins σ H s)(ok:iX X.N X.env.scope scope own)(hN:X.N.Nodup)(hfp:∀b∈fp,ic X pins H b/\b<s.heap.objs.size):
  Inv (X.eG s H scope (compEnvC scope (cellsFrom (s.heap.objs.size+1) scope.names (dz X.env.cells scope.names [])) s.heap.objs.size X.env) fp) [] (wipe σ (own.map (·.2))) H {s with heap:=pushCells (s.heap.push {cls:=.type "dict",data:=.dict #[]}) scope.names}:=by
 have hfree:∀y∈scope.names,y.2=.free->∃c,X.env.cells.lookup y.1=some c:=fun y hy e=>by
  rcases ok.free y hy e with k|k
  ·exact I.ok.has _ (.inl k)
  ·exact I.ok.has _ (.inr k)
 generalize hcenv:compEnvC scope (cellsFrom (s.heap.objs.size+1) scope.names (dz X.env.cells scope.names [])) s.heap.objs.size X.env=cenv
 have kp:∀b o,s.heap.get? b=some o->(pushCells (s.heap.push {cls:=.type "dict",data:=.dict #[]}) scope.names).get? b=some o:=fun b o e=>pushCells_keeps _ _ _ _ (Heap.get?_push_of_some _ e)
 have hL:cenv.locals=s.heap.objs.size:=by rw[<-hcenv];rfl
 have hcl:cenv.cells=cellsFrom (s.heap.objs.size+1) scope.names (dz X.env.cells scope.names []):=by rw[<-hcenv];rfl
 have hsc:cenv.scope=Pg scope X.env.scope:=by rw[<-hcenv];rfl
 rw[<-Heap.size_push s.heap {cls:=.type "dict",data:=.dict #[]}]at hcl
 have cm:∀{y c},(y,c)∈dz X.env.cells scope.names []->X.env.cells.lookup y=some c/\c<s.heap.objs.size:=fun{y c}hm=>by
  rcases uG hm with hm|⟨h1,rfl⟩
  ·cases hm
  ·obtain⟨c,hc⟩:=hfree _ h1 rfl
   rw[hc]
   obtain⟨w,z⟩:=I.cell _ _ hc
   exact⟨rfl,z.lt⟩
 have mem:∀{y c},cenv.cells.lookup y=some c->(X.env.cells.lookup y=some c/\c<s.heap.objs.size)\/(s.heap.objs.size+1<=c/\Gh (pushCells (s.heap.push {cls:=.type "dict",data:=.dict #[]}) scope.names) c none):=fun{y c}e=>by
  rw[hcl]at e
  rcases sr (PySem.mem_of_lookup e)with hm|⟨_,h2,h3⟩
  ·exact .inl (cm hm)
  ·rw[Heap.size_push]at h2;exact .inr ⟨h2,h3⟩
 have look:∀{y},scope.names.lookup y=some .free->∃c,cenv.cells.lookup y=some c/\X.env.cells.lookup y=some c:=fun{y}hl=>by
  have hy:(y,NameKind.free)∈scope.names:=PySem.mem_of_lookup hl
  obtain⟨c',e'⟩:=mem_lookup (ud (names:=scope.names) (n:=(s.heap.push {cls:=.type "dict",data:=.dict #[]}).objs.size) (xi (cells:=X.env.cells) (acc:=[]) hy))
  rw[<-hcl]at e'
  refine⟨c',e',?_⟩
  rw[hcl]at e'
  rcases sr (PySem.mem_of_lookup e')with hm|⟨h1,_,_⟩
  ·exact(cm hm).1
  ·have:=ok.uniq _ h1
   rw[hl]at this;cases this
 have okB:(X.eG s H scope cenv fp).Ok:=by
  refine⟨I.ok.mod,by show cenv.scope.kind=_;rw[hsc];exact ok.kind,by show cenv.globals=_;rw[<-hcenv];exact I.ok.glob,by show cenv.builtins=_;rw[<-hcenv];exact I.ok.blt,by show s.heap.objs.size<=cenv.locals;rw[hL];exact Nat.le_refl _,
   fun y z c e1 e2=>?_,fun y hy=>?_,fun y c z e=>?_,I.ok.hd,I.ok.frames,.inl rfl,fun b hb=>⟨?_,fun y c e z=>?_⟩,I.bs,Nat.le_trans I.ok.fA I.sz,fun b o e hb=>?_,fun b hb z=>?_,I.stack,I.vJ⟩
  ·have e1:cenv.cells.lookup y=some c:=e1
   have e2:cenv.cells.lookup z=some c:=e2
   rw[hcl]at e1 e2
   refine Ak (fun p hp=>?_) (fun y z c a b=>I.ok.inj y z c (cm a).1 (cm b).1) (PySem.mem_of_lookup e1) (PySem.mem_of_lookup e2)
   rw[Heap.size_push]
   exact Nat.lt_succ_of_lt (cm (y:=p.1) (c:=p.2) hp).2
  ·show ∃c,cenv.cells.lookup y=some c
   have key:∀k,cenv.kindOf y=some k->(k=.cell\/k=.free)->∃c,cenv.cells.lookup y=some c:=fun k hk hk'=>by
    unfold Env.kindOf at hk
    rw[hsc]at hk
    obtain⟨k',e,r⟩:=wZ hk
    have:k'=.cell\/k'=.free:=by
     rcases r with rfl|⟨rfl,_⟩
     ·exact hk'
     ·exact .inr rfl
    rcases this with rfl|rfl
    ·obtain⟨c,hm⟩:=yc (n:=(s.heap.push {cls:=.type "dict",data:=.dict #[]}).objs.size) (acc:=dz X.env.cells scope.names []) (PySem.mem_of_lookup e)
     obtain⟨c',e'⟩:=mem_lookup hm
     exact⟨c',by rw[hcl];exact e'⟩
    ·obtain⟨c,h1,_⟩:=look e
     exact⟨c,h1⟩
   rcases hy with hy|hy
   ·exact key _ hy (.inl rfl)
   ·exact key _ hy (.inr rfl)
  ·have z:(scope.names.lookup y==some NameKind.cell)=true:=z
   have z:scope.names.lookup y=some .cell:=by simpa using z
   have e:cenv.cells.lookup y=some c:=e
   rw[hcl]at e
   rcases sr (PySem.mem_of_lookup e)with hm|⟨_,h2,_⟩
   ·rcases uG hm with hm|⟨h1,_⟩
    ·cases hm
    ·have q:=ok.uniq _ h1
     rw[z]at q;cases q
   ·rw[Heap.size_push]at h2
    exact Nat.le_of_succ_le h2
  ·show b≠cenv.locals
   rw[hL];exact Nat.ne_of_lt (hfp b hb).2
  ·have e:cenv.cells.lookup y=some c:=e
   rcases mem e with ⟨h1,_⟩|⟨h1,_⟩
   ·exact(hfp b hb).1.2.2.2.2.1 y c h1 z
   ·have h2:s.heap.objs.size+1<=b:=by rw[<-z];exact h1
    exact absurd (Nat.lt_of_lt_of_le (hfp b hb).2 (Nat.le_of_succ_le h2)) (Nat.lt_irrefl _)
  ·rcases(hfp b hb).1.2.2.2.1 with z|z
   ·exact I.ok.iR b o e z
   ·exact absurd (Nat.lt_of_lt_of_le (Heap.lt_size e) (Nat.le_trans I.ok.fA z)) (Nat.lt_irrefl _)
  ·rcases List.mem_cons.mp (I.AL b z)with z|z
   ·exact(hfp b hb).1.2.1 z
   ·exact(hfp b hb).1.2.2.1 z
 refine⟨okB,rfl,I.bare,Un.kept kp,⟨fun _=>none,?_,fun i y av e1 e2 e3=>?_⟩,fun y c e=>?_,?_,fun y c e=>?_,fun p hp=>?_,I.aA.kept kp,by rw[zp];exact I.len⟩
 ·show Heap.Ns _ cenv.locals _
  rw[hL]
  exact Heap.Ns.keeps (Heap.Ns.new ..) fun b o e=>pushCells_keeps _ _ _ _ e
 ·obtain⟨e2,hne⟩:=Au e2
  have hfr:scope.names.lookup y=some .free/\(cenv.kindOf y=some .cell\/cenv.kindOf y=some .free):=by
   have key:∀k,cenv.scope.names.lookup y=some k->k=.local\/k=.cell\/k=.free->scope.names.lookup y=some .free/\(cenv.kindOf y=some .cell\/cenv.kindOf y=some .free):=fun k hk hk'=>by
    have hk0:=hk
    rw[hsc]at hk
    obtain⟨k',e,r⟩:=wZ hk
    have no:¬(k'=.local\/k'=.cell):=fun hh=>by
     rcases ok.own _ (PySem.mem_of_lookup e) hh with e'|e'
     ·obtain⟨p,hp,hpy⟩:=List.mem_map.mp e'
      have e3:=ok.ix p hp
      have:p.1=y:=hpy
      rw[this]at e3
      exact hne (List.mem_map.mpr ⟨p,hp,Ay hN e3 e1⟩)
     ·exact e' (List.mem_of_getElem? e1)
    rcases r with rfl|⟨rfl,rfl⟩
    ·rcases hk' with rfl|rfl|rfl
     ·exact absurd (.inl rfl) no
     ·exact absurd (.inr rfl) no
     ·exact⟨e,.inr hk0⟩
    ·exact⟨e,.inl hk0⟩
   have e3:mW cenv.scope y:=e3
   rcases e3 with e3|e3|e3
   ·exact key _ e3 (.inl rfl)
   ·exact key _ e3 (.inr (.inl rfl))
   ·exact key _ e3 (.inr (.inr rfl))
  obtain⟨m,hn,hl⟩:=I.loc
  have hvis:mW X.env.scope y:=(ok.free _ (PySem.mem_of_lookup hfr.1) rfl).elim (fun k=>.inr (.inl k)) (fun k=>.inr (.inr k))
  obtain⟨w,r,q⟩:=hl i y av e1 e2 hvis
  refine⟨w,r,.inr ⟨hfr.2,?_⟩⟩
  obtain⟨c,h1,h2⟩:=look hfr.1
  rcases q with ⟨k,_⟩|⟨_,c',e',z⟩
  ·have k:X.env.scope.names.lookup y=some .local:=k
   rcases ok.free _ (PySem.mem_of_lookup hfr.1) rfl with k'|k'<;>rw[show X.env.scope.names.lookup y=_ from k']at k<;>cases k
  ·rw[h2]at e';cases e'
   exact⟨c,h1,z.keeps kp⟩
 ·have e:cenv.cells.lookup y=some c:=e
  rcases mem e with ⟨h1,_⟩|⟨_,z⟩
  ·obtain⟨w,z⟩:=I.cell y c h1
   exact⟨w,z.keeps kp⟩
  ·exact⟨_,z⟩
 ·show H cenv.locals=none
  rw[hL];exact I.aA.fresh (Nat.le_refl _)
 ·have e:cenv.cells.lookup y=some c:=e
  rcases mem e with ⟨h1,_⟩|⟨h1,_⟩
  ·exact I.dQ y c h1
  ·exact I.aA.fresh (Nat.le_of_succ_le h1)
 ·exact absurd (show p∈([]:List (Addr×Obj))++[]from hp) (by simp)
theorem JL{E:Value->Shared->Prop}{D:Addr}{xs:List V}{y:V}{v:Value}{Q:Value->Shared->Prop}(I:Inv X pins σ H s)(hD:H D=some (.lst xs))(hz:xs.length<sizeLine)(r:RelV y v)
  (h:∀s',Inv X pins σ (upd H D (.lst (xs++[y]))) s'->Q .none s'):wpAny (model X.prog X.w) X.A (call (.builtin "list.append") [.ref D,v]) Q E s:=by
 obtain⟨hz',its,n,ri,e⟩:=I.aA D _ hD
 have hl:=ri.length
 refine append_at (hsz:=by rw[List.size_toArray];lia) e fun h' sb ho'=>?_
 refine h {s with heap:=h'} (I.write (t':=s.toks) (by rw[hD];trivial) (.inl rfl) (fun b u hb q=>(sb.2 b hb).trans q) ⟨_,ho'⟩ ⟨by rw[List.length_append];exact hz,its++[v],n+1,ri.append (.cons r .nil),?_⟩)
 rw[ho']
 simp
def vX(X:Cx)(ifs:List Expr)(t:TT):Prop:=
 ∀(pins:List (Addr×Obj))(s:Shared)(σ:St)(H:Hp)(Q:Bool->Hp->Prop),Inv X pins σ H s->t σ H Q->
  wpAny (model X.prog X.w) X.A (forIn ifs true fun c r=>if r=true then do let ok <-isTrue c X.env (eval c X.env);pure (ForInStep.yield ok)else pure (ForInStep.yield r)) (TP X pins σ Q) X.xe s
def K1:TT:=fun _ H Q=>Q true H
theorem qH:vX X [] K1:=fun _ _ _ H _ I h=>wpAny_tests_nil ⟨H,I,h⟩
end
theorem nI{α:Type}{t:Sem α}{Q Q':α->Shared->Prop}{M:Model}{A:Around}{E:Value->Shared->Prop}{s:Shared}(h:wpAny M A t Q (fun _ _=>False) s)(hQ:∀a s,Q a s->Q' a s):wpAny M A t Q' E s:=wpAny_mono h hQ fun _ _ z=>False.elim z
theorem HF{prog:Program}{w:World}{A:Around}{R:Result->Shared->Prop}{s:Shared}{elt target iter:Expr}{ifs:List Expr}{scope:Scope}{pos:Pos}{it acc:Value}{env:Env}(I:Nat->Shared->Prop)
  (turn:∀n s,I n s->wpAny (model prog w) A (pyNext it) (fun r s₁=>match r with
   |none=>R (.ok .next) s₁
   |some v=>wpAny (model prog w) A (letOwnedTupleGo target it v) (fun _ s₁'=>wpAny (model prog w) A (assign target env v) (fun _ s₂=>
     wpAny (model prog w) A (forIn ifs true fun c r=>if r=true then do let ok <-isTrue c env (eval c env);pure (ForInStep.yield ok)else pure (ForInStep.yield r)) (fun ok s₃=>
      if ok=true then wpAny (model prog w) A (eval elt env) (fun x s₄=>
       wpAny (model prog w) A (call (.builtin "list.append") [acc,x]) (fun _ s₅=>∃m,m<n/\I m s₅) (notedBy (model prog w) A env fun e s'=>R (.error e) s') s₄) (notedBy (model prog w) A env fun e s'=>R (.error e) s') s₃
      else ∃m,m<n/\I m s₃) (notedBy (model prog w) A env fun e s'=>R (.error e) s') s₂) (notedBy (model prog w) A env fun e s'=>R (.error e) s') s₁') (notedBy (model prog w) A env fun e s'=>R (.error e) s') s₁) (notedBy (model prog w) A env fun e s'=>R (.error e) s') s)
  (n:Nat) (h:I n s):
  codeAny (model prog w) A (.compLoop (.ListComp elt [⟨target,iter,ifs,0⟩] scope pos) 0 it acc env) R s:=by
 refine codeAny_loop rfl I (fun n s hI=>?_) n h
 show wpAny _ A ((compTurn (.ListComp elt [⟨target,iter,ifs,0⟩] scope pos) 0 it acc env).onRaise (fun x=>do noteFrame x env;theTreesLotGoes x)) _ _ s
 refine wpAny_noted ?_
 rw[compTurn_list]
 refine wpAny_bind (wpAny_standAt (wpAny_bind (wpAny_mono (turn n s hI) (fun r s₁ h₁=>?_) fun _ _ h'=>h')))
 cases r with
 |none=>exact wpAny_pure h₁
 |some v=>
  refine wpAny_bind (wpAny_mono h₁ (fun _ s₁' h₁'=>?_) fun _ _ h'=>h')
  refine wpAny_bind (wpAny_mono h₁' (fun _ s₂ h₂=>wpAny_bind (wpAny_mono h₂ (fun ok s₃ h₃=>?_) fun _ _ h'=>h')) fun _ _ h'=>h')
  cases ok with
  |false=>exact wpAny_pure ⟨rfl,h₃⟩
  |true=>
   exact wpAny_bind (wpAny_bind (wpAny_mono h₃ (fun x s₄ h₄=>wpAny_bind (wpAny_mono h₄ (fun _ s₅ h₅=>wpAny_pure (wpAny_pure ⟨rfl,h₅⟩)) fun _ _ h'=>h')) fun _ _ h'=>h'))
section
variable {X:Cx}
def EM(wi:TI)(g:TG)(tt:TT)(te:TE)(vs:List Nat):TE:=fun σ H Q=>wi σ H fun J H1=>∀D,H1 D=none->∃W:Nat->Nat->Hp->Prop,(∃m,W 0 m (upd H1 D (.lst [])))/\∀i m H,W i m H->
 (J.stop i H/\Q (.ref D) H)\/(J.go i H/\∃Nx:Hp->Prop,(∀H',Nx H'->∃m',m'<m/\W (i+1) m' H')/\∀x H',J.mF i H x H'->g x (wipe σ vs) H' fun σ2 H2=>wipe σ2 vs=wipe σ vs/\tt σ2 H2 fun b H3=>
  if b=true then te σ2 H3 fun y H4=>∃acc,H4 D=some (.lst acc)/\acc.length<sizeLine/\Nx (upd H4 D (.lst (acc++[y])))else Nx H3)
theorem Mu{pins:List (Addr×Obj)}{s:Shared}{σ:St}{H:Hp}{Q:VK}{elt tg iter:Expr}{ifs:List Expr}{scope:Scope}{own:List (Str×Nat)}{pos pos':Pos}{wi:TI}{g:TG}{tt:TT}{te:TE}{use:Option (Value->Sem Unit)}{Qf:Value->Shared->Prop}
  (hc:X.calm=true) (hN:X.N.Nodup) (I:Inv X pins σ H s) (hi:PI X tg iter wi) (ok:iX X.N X.env.scope scope own)
  (hg:∀(s:Shared)(H:Hp)(C:Addr)(cl:List (Str×Addr))(fp:List Addr),PG (X.eG s H scope (compEnvC scope cl C X.env) fp) tg g) (ht:∀(s:Shared)(H:Hp)(C:Addr)(cl:List (Str×Addr))(fp:List Addr),vX (X.eG s H scope (compEnvC scope cl C X.env) fp) ifs tt)
  (he:∀(s:Shared)(H:Hp)(C:Addr)(cl:List (Str×Addr))(fp:List Addr),PE (X.eG s H scope (compEnvC scope cl C X.env) fp) elt te) (hs:∀x,foldedSetIterable iter X.env x=pure x)
  (h:EM wi g tt te (own.map (·.2)) σ H Q)
  (hRR:∀D C s' m H',Inv X pins σ H' s'->Q (.ref D) H'->s'.heap.Ns C m->ic X pins H' C->compPost (model X.prog X.w) X.A X.xe use Qf (.ref D) C (.ok .next) s'):
  wpAny (model X.prog X.w) X.A (comprehension (.ListComp elt [⟨tg,iter,ifs,0⟩] scope pos) scope X.env pos' (newList []) false (eval iter X.env) use) Qf X.xe s:=by
 have hfree:∀y∈scope.names,y.2=.free->∃c,X.env.cells.lookup y.1=some c:=fun y hy e=>by
  rcases ok.free y hy e with k|k
  ·exact I.ok.has _ (.inl k)
  ·exact I.ok.has _ (.inr k)
 refine wpAny_comprehension_free (use:=use) rfl hs (OS hfree) ok.kind (fun y hy e=>by rw[ok.uniq y hy,e])
  (aJ (hi pins s σ H _ I h) fun xv s1 hx=>aJ hx fun itv s2 h2=>?_)
 obtain⟨it,fp,tn,J,H2,e,I2,T,st2,f2,q⟩:=h2
 subst e
 refine wpAny_newObj_type (Nh ?_) (by show 0<=sizeLine;decide)
 generalize hD:s2.heap.objs.size=D
 have hDn:H2 D=none:=I2.aA.fresh (Nat.le_of_eq hD)
 obtain⟨W,⟨m0,w0⟩,turn⟩:=q D hDn
 -- the new list
 generalize hs3:({s2 with heap:=s2.heap.push {cls:=.type "list",data:=.seq ([]:List Value).toArray}}:Shared)=s3
 have I3:Inv X pins σ (upd H2 D (.lst [])) s3:=by
  rw[<-hs3]
  refine I2.laid (t':=s2.toks) (fun b o e=>Heap.get?_push_of_some _ e) (Nat.le_of_eq hD) ⟨Nat.zero_le _,[],0,.nil,?_⟩
  rw[<-hD]
  exact Heap.get?_push_size _ rfl
 have h3:s3.heap=s2.heap.push {cls:=.type "list",data:=.seq ([]:List Value).toArray}:=by rw[<-hs3]
 have sz:∀b∈fp,b<s2.heap.objs.size:=fun b hb=>by
  obtain⟨o,e,_⟩:=T.obj _ _ st2 b hb
  exact Heap.lt_size e
 have f3:∀b∈fp,ic X pins (upd H2 D (.lst [])) b/\b<s3.heap.objs.size:=fun b hb=>by
  have hlt:=sz b hb
  refine⟨⟨?_,(f2 b hb).2⟩,by rw[h3,Heap.size_push];exact Nat.lt_succ_of_lt hlt⟩
  rw[ak (by rw[<-hD];exact Nat.ne_of_lt hlt)]
  exact(f2 b hb).1
 have st3:tn 0 s3.heap:=T.keep _ _ _ st2 fun b _ o e=>by rw[h3];exact Heap.get?_push_of_some _ e
 have I4:=IT I3 ok hN f3
 have pg:=hg s3 (upd H2 D (.lst [])) s3.heap.objs.size (cellsFrom (s3.heap.objs.size+1) scope.names (dz X.env.cells scope.names [])) fp
 have pt:=ht s3 (upd H2 D (.lst [])) s3.heap.objs.size (cellsFrom (s3.heap.objs.size+1) scope.names (dz X.env.cells scope.names [])) fp
 have pe:=he s3 (upd H2 D (.lst [])) s3.heap.objs.size (cellsFrom (s3.heap.objs.size+1) scope.names (dz X.env.cells scope.names [])) fp
 show codeAny _ _ (.compStart (.ListComp elt [⟨tg,iter,ifs,0⟩] scope pos) 0 (.ref it) (.ref D) (compEnvC scope (cellsFrom (s3.heap.objs.size+1) scope.names (dz X.env.cells scope.names [])) s3.heap.objs.size X.env)) (compPost (model X.prog X.w) X.A X.xe use Qf (.ref D) s3.heap.objs.size) {s3 with heap:=pushCells (s3.heap.push {cls:=.type "dict",data:=.dict #[]}) scope.names}
 have nfp:∀b∈fp,(upd H2 D (.lst [])) b=none:=fun b hb=>(f3 b hb).1.1
 generalize hce:compEnvC scope (cellsFrom (s3.heap.objs.size+1) scope.names (dz X.env.cells scope.names [])) s3.heap.objs.size X.env=ce at I4 pg pt pe ⊢
 have cL:ce.locals=s3.heap.objs.size:=by subst hce;rfl
 generalize hH3:upd H2 D (.lst [])=H3 at I3 I4 pg pt pe w0 nfp f3
 generalize hs4:({s3 with heap:=pushCells (s3.heap.push {cls:=.type "dict",data:=.dict #[]}) scope.names}:Shared)=s4 at I4 ⊢
 have st4:tn 0 s4.heap:=T.keep _ _ _ st3 fun b _ o e=>by rw[<-hs4];exact pushCells_keeps _ _ _ _ (Heap.get?_push_of_some _ e)
 have stat:∀{σ':St}{H':Hp}{s':Shared},Inv (X.eG s3 H3 scope ce fp) [] σ' H' s'->(∀b∈fp,H' b=none)->∀b∈fp,ic (X.eG s3 H3 scope ce fp) [] H' b:=fun{σ' H' s'}I' hn b hb=>
  ⟨hn b hb,(I'.ok.jJ b hb).1,I'.ok.iP b hb,.inl hb,fun x c e=>(I'.ok.jJ b hb).2 x c e,fun p hp=>absurd (show p∈([]:List (Addr×Obj))++[]from hp) (by simp)⟩
 have loop:codeAny (model X.prog X.w) X.A (.compLoop (.ListComp elt [⟨tg,iter,ifs,0⟩] scope pos) 0 (.ref it) (.ref D) ce) (compPost (model X.prog X.w) X.A X.xe use Qf (.ref D) s3.heap.objs.size) s4:=by
  refine HF (fun n s'=>∃i H',Inv (X.eG s3 H3 scope ce fp) [] (wipe σ (own.map (·.2))) H' s'/\tn i s'.heap/\(∀b∈fp,H' b=none)/\W i n H') ?_ m0 ⟨0,H3,I4,st4,nfp,w0⟩
  rintro n s5 ⟨i,H5,I5,st5,n5,w5⟩
  rcases turn i n H5 w5 with ⟨stop,qq⟩|⟨go,Nx,hNx,step⟩
  ·have td:=T.done (X.eG s3 H3 scope ce fp) rfl rfl rfl hc i [] s5 _ H5 (fun _ _=>False) I5 (stat I5 n5) st5 stop
   refine nI td fun r s6 hh32=>?_
   obtain⟨hr,I6⟩:=hh32
   subst hr
   -- back in the def's context
   have I7:Inv X pins σ H5 s6:=I3.Lc (ch:=fp) I6.os I6.base I6.aA I6.bare fun b hb=>⟨(f3 b hb).1.2.2.2.1,(f3 b hb).1.2.1,(f3 b hb).1.2.2.2.2.1,(f3 b hb).1.2.2.2.2.2⟩
   have nC:H5 s3.heap.objs.size=none:=by
    have z:H5 ce.locals=none:=I6.free
    rw[cL]at z
    exact z
   obtain⟨m,hn,_⟩:=I6.loc
   have hn:s6.heap.Ns ce.locals m:=hn
   rw[cL]at hn
   exact hRR D s3.heap.objs.size s6 m H5 I7 qq hn (I3.v5 (Nat.le_refl _) nC)
  ·have ti:=T.item (X.eG s3 H3 scope ce fp) rfl rfl rfl hc i [] s5 _ H5 (fun _ _=>False) I5 (stat I5 n5) st5 go
   refine nI ti fun r s6 hh33=>?_
   obtain⟨u,hr,h6⟩:=hh33
   subst hr
   refine nI h6 fun _ s7 hh34=>?_
   obtain⟨x,H7,I7,r7,y7,st7,n7⟩:=hh34
   have I7':=I7.pinned (stat I7 n7) (T.obj _ _ st7)
   refine nI (pg _ s7 _ H7 x u _ I7' r7 (step x H7 y7)) fun _ s8 hh35=>?_
   obtain⟨σ8,H8,I8,hw8,q8⟩:=hh35
   refine nI (pt _ s8 σ8 H8 _ I8 q8) fun b s9 hh36=>?_
   obtain⟨H9,I9,q9⟩:=hh36
   -- the turn's end
   have fin:∀{s':Shared}{H':Hp},Inv (X.eG s3 H3 scope ce fp) ([]++qM fp s7.heap) σ8 H' s'->Nx H'->∃m,m<n/\∃i H',Inv (X.eG s3 H3 scope ce fp) [] (wipe σ (own.map (·.2))) H' s'/\tn i s'.heap/\(∀b∈fp,H' b=none)/\W i m H':=fun{s' H'}I' nx=>by
    obtain⟨m',hm,w'⟩:=hNx H' nx
    have pin':∀b∈fp,∀o,s7.heap.get? b=some o->s'.heap.get? b=some o/\H' b=none:=fun b hb o e=>
     let z:=I'.pin (b,o) (List.mem_append_right _ (List.mem_append_right _ (wG hb e)))
     ⟨z.1,z.2.1⟩
    have hl:(wipe σ (own.map (·.2))).length=σ8.length:=by rw[<-hw8,zp]
    refine⟨m',hm,i+1,H',(I'.tR (pins:=[])).weak hl (fun j v e=>?_),T.keep _ _ _ st7 fun b hb o e=>(pin' b hb o e).1,fun b hb=>?_,w'⟩
    ·rw[<-hw8]at e
     exact(Au e).1
    ·obtain⟨o,e,_⟩:=T.obj _ _ st7 b hb
     exact(pin' b hb o e).2
   cases b with
   |false=>
    simp only[Bool.false_eq_true,if_false]at q9 ⊢
    exact fin I9 q9
   |true=>
    simp only[if_true]at q9 ⊢
    refine nI (pe _ s9 σ8 H9 _ I9 q9) fun z s10 hh37=>?_
    obtain⟨yv,H10,I10,r10,acc,hD10,hz10,nx⟩:=hh37
    exact JL (X:=X.eG s3 H3 scope ce fp) I10 hD10 hz10 r10 fun s11 I11=>fin I11 nx
 exact codeAny_compStart_list loop (T.self X.A 0 _ _ _ st4 loop)
theorem rQ{elt tg iter:Expr}{ifs:List Expr}{scope:Scope}{own:List (Str×Nat)}{pos:Pos}{wi:TI}{g:TG}{tt:TT}{te:TE}(hc:X.calm=true)(hN:X.N.Nodup)(hi:PI X tg iter wi)(ok:iX X.N X.env.scope scope own)
  (hg:∀(s:Shared)(H:Hp)(C:Addr)(cl:List (Str×Addr))(fp:List Addr),PG (X.eG s H scope (compEnvC scope cl C X.env) fp) tg g) (ht:∀(s:Shared)(H:Hp)(C:Addr)(cl:List (Str×Addr))(fp:List Addr),vX (X.eG s H scope (compEnvC scope cl C X.env) fp) ifs tt)
  (he:∀(s:Shared)(H:Hp)(C:Addr)(cl:List (Str×Addr))(fp:List Addr),PE (X.eG s H scope (compEnvC scope cl C X.env) fp) elt te) (hs:∀x,foldedSetIterable iter X.env x=pure x:=by intro _;rfl):
  PE X (.ListComp elt [⟨tg,iter,ifs,0⟩] scope pos) (EM wi g tt te (own.map (·.2))):=by
 intro pins s σ H Q I h
 rw[eval_ListComp]
 refine Mu hc hN I hi ok hg ht he hs h fun D C s' m H' I' q hn f=>⟨m,hn,fun h'' sb=>?_⟩
 obtain⟨f0,f1,f2,f3,f4,f5⟩:=f
 exact⟨.ref D,H',I'.turned (t':=s'.toks) (fun b o hb e=>(sb.2 b hb).trans e) f0 f1 f3 f4 f5,rfl,q⟩
end
theorem sT{K:PySem.W.Frag}{a:Addr}{xs:List V}{g:TG}{tt:TT}{te:TE}{vs:List Nat}{σ:St}{H1:Hp}{D:Addr}{Qd:Hp->Prop}(Pv:Nat->Hp->Prop)(h0:Pv 0 (upd H1 D (.lst [])))(hl:∀i H,i<=xs.length->Pv i H->aF K H a xs)
  (hs:∀i x H,xs[i]? =some x->Pv i H->g x (wipe σ vs) H fun σ2 H2=>wipe σ2 vs=wipe σ vs/\tt σ2 H2 fun b H3=>
   if b=true then te σ2 H3 fun y H4=>∃acc,H4 D=some (.lst acc)/\acc.length<sizeLine/\Pv (i+1) (upd H4 D (.lst (acc++[y])))else Pv (i+1) H3) (hd:∀H,Pv xs.length H->Qd H):
  ∃W:Nat->Nat->Hp->Prop,(∃m,W 0 m (upd H1 D (.lst [])))/\∀i m H,W i m H->
   ((jG K a).stop i H/\Qd H)\/((jG K a).go i H/\∃Nx:Hp->Prop,(∀H',Nx H'->∃m',m'<m/\W (i+1) m' H')/\∀x H',(jG K a).mF i H x H'->g x (wipe σ vs) H' fun σ2 H2=>wipe σ2 vs=wipe σ vs/\tt σ2 H2 fun b H3=>
    if b=true then te σ2 H3 fun y H4=>∃acc,H4 D=some (.lst acc)/\acc.length<sizeLine/\Nx (upd H4 D (.lst (acc++[y])))else Nx H3):=by
 refine⟨fun i m H=>m=xs.length-i/\i<=xs.length/\Pv i H,⟨xs.length,by simp,Nat.zero_le _,h0⟩,?_⟩
 rintro i m H ⟨rfl,hi,p⟩
 have q:=hl i H hi p
 by_cases hlt:i<xs.length
 ·refine .inr ⟨⟨xs,xs[i],q,by simp[hlt]⟩,Pv (i+1),fun H' p'=>⟨xs.length-(i+1),by lia,rfl,hlt,p'⟩,fun x H' y=>?_⟩
  obtain⟨e,y⟩:=y
  subst e
  exact hs i x _ (y xs q) p
 ·have e:i=xs.length:=by lia
  subst e
  exact .inl ⟨⟨xs,q,Nat.le_refl _⟩,hd H p⟩
def EU(N:List Str)(sc scope:Scope)(own:List (Str×Nat)):Bool:=
 (match scope.kind with| .function=>true|_=>false)&&(scope.names.all fun y=>decide (scope.names.lookup y.1=some y.2))&&(own.all fun p=>decide (N[p.2]? =some p.1))&&
  (scope.names.all fun y=>match y.2 with
   | .free=>(match sc.names.lookup y.1 with|some .cell=>true|some .free=>true|_=>false)
   | .local=>decide (y.1∈own.map (·.1))||decide (y.1∉N)
   | .cell=>decide (y.1∈own.map (·.1))||decide (y.1∉N)
   |_=>true)
theorem rf{N:List Str}{sc scope:Scope}{own:List (Str×Nat)}(h:EU N sc scope own=true):iX N sc scope own:=by
 unfold EU at h
 simp only[Bool.and_eq_true,List.all_eq_true,decide_eq_true_eq]at h
 obtain⟨⟨⟨h1,h2⟩,h3⟩,h4⟩:=h
 refine⟨?_,h2,h3,fun y hy e=>?_,fun y hy e=>?_⟩
 ·split at h1
  ·assumption
  ·cases h1
 ·have q:=h4 y hy
  simp only[e]at q
  split at q<;>first|exact .inl (by assumption)|exact .inr (by assumption)|cases q
 ·have q:=h4 y hy
  rcases e with e|e<;>(simp only[e,Bool.or_eq_true,decide_eq_true_eq]at q;exact q)
end L2
namespace L2
open PySem PySem.Spec PyProof.Rows
section
variable {prog:Program}{w:World}{A:Around}{R:Result->Shared->Prop}{s:Shared}{elt t0 i0 t1 i1:Expr}{ifs0 ifs1:List Expr}{scope:Scope}{pos:Pos}{it acc:Value}{env:Env}
end
section
variable {X:Cx}
end
end L2
namespace L2
open PySem PySem.Spec PyProof.Rows
section
variable {κ:Type}[DecidableEq κ]
def bR(kvs:List (κ×V))(k:κ):Option V:=(kvs.find? fun kv=>decide (kv.1=k)).map (·.2)
def putK(kvs:List (κ×V))(k:κ)(v:V):List (κ×V):=
 if(kvs.any fun kv=>decide (kv.1=k))=true then kvs.map (fun kv=>if kv.1=k then(kv.1,v)else kv)else kvs++[(k,v)]
theorem Fj{k:κ}:bR ([]:List (κ×V)) k=none:=rfl
theorem gR{p:κ×V}{r:List (κ×V)}{k:κ}(e:p.1=k):bR (p::r) k=some p.2:=by simp[bR,List.find?_cons,e]
theorem gP{p:κ×V}{r:List (κ×V)}{k:κ}(e:¬p.1=k):bR (p::r) k=bR r k:=by simp[bR,List.find?_cons,e]
theorem vT(k:κ):∀kvs:List (κ×V),(kvs.any fun kv=>decide (kv.1=k))=(bR kvs k).isSome
 |[]=>rfl
 |p::r=>by
  rw[List.any_cons]
  by_cases e:p.1=k
  ·simp only[gR e,decide_eq_true e,Bool.true_or,Option.isSome_some]
  ·rw[gP e,decide_eq_false e,Bool.false_or];exact vT k r
theorem FY(k j:κ)(y:V):∀kvs:List (κ×V),bR (kvs.map fun kv=>if kv.1=k then(kv.1,y)else kv) j=(bR kvs j).map fun x=>if j=k then y else x
 |[]=>rfl
 |p::r=>by
  have ih:=FY k j y r
  rw[List.map_cons]
  by_cases h:p.1=k
  ·rw[if_pos h]
   by_cases e:p.1=j
   ·rw[gR (p:=(p.1,y)) e,gR e,Option.map_some,if_pos (e.symm.trans h)]
   ·rw[gP (p:=(p.1,y)) e,gP e,ih]
  ·rw[if_neg h]
   by_cases e:p.1=j
   ·rw[gR (p:=p) e,gR e,Option.map_some,if_neg (fun z=>h (e.trans z))]
   ·rw[gP (p:=p) e,gP e,ih]
theorem Dj(k j:κ)(y:V):∀kvs:List (κ×V),bR kvs k=none->bR (kvs++[(k,y)]) j=if j=k then some y else bR kvs j
 |[],_=>by
  by_cases e:k=j
  ·rw[if_pos e.symm];exact gR (p:=(k,y)) e
  ·rw[if_neg (fun z=>e z.symm)];exact gP (p:=(k,y)) e
 |p::r,hn=>by
  rw[List.cons_append]
  have hk:¬p.1=k:=fun z=>by rw[gR z]at hn;cases hn
  rw[gP hk]at hn
  have ih:=Dj k j y r hn
  by_cases e:p.1=j
  ·rw[gR e,gR e,if_neg (fun z=>hk (e.trans z))]
  ·rw[gP e,gP e,ih]
theorem wR(kvs:List (κ×V))(k j:κ)(y:V):bR (putK kvs k y) j=if j=k then some y else bR kvs j:=by
 unfold putK
 by_cases a:(kvs.any fun kv=>decide (kv.1=k))=true
 ·rw[if_pos a,FY]
  rw[vT]at a
  by_cases e:j=k
  ·obtain⟨x,hx⟩:=Option.isSome_iff_exists.mp a
   rw[if_pos e,e,hx,Option.map_some,if_pos rfl]
  ·rw[if_neg e]
   cases bR kvs j with
   |none=>rfl
   |some x=>rw[Option.map_some,if_neg e]
 ·rw[if_neg a]
  refine Dj k j y kvs ?_
  rw[vT]at a
  cases q:bR kvs k with
  |none=>rfl
  |some x=>rw[q]at a;exact(a rfl).elim
theorem ny(kvs:List (κ×V))(k:κ)(v:V):(putK kvs k v).length<=kvs.length+1:=by
 unfold putK
 split
 ·rw[List.length_map];lia
 ·rw[List.length_append,List.length_cons,List.length_nil];lia
theorem dk.t6{o:Option V}{u:Option Value}(r:dk o u):o.isSome=u.isSome:=by
 cases o with
 |none=>cases u with
  |none=>rfl
  |some _=>exact(show False from r).elim
 |some _=>cases u with
  |none=>exact(show False from r).elim
  |some _=>rfl
theorem dk.getD{o:Option V}{u:Option Value}{d:V}{d':Value}(r:dk o u)(rd:RelV d d'):RelV (o.getD d) (u.getD d'):=by
 cases o with
 |none=>cases u with
  |none=>exact rd
  |some _=>exact(show False from r).elim
 |some _=>cases u with
  |none=>exact(show False from r).elim
  |some _=>exact r
theorem KV.val{kvs:List (κ×V)}{vs:List (κ×Value)}(r:KV kvs vs)(k:κ):dk (bR kvs k) (valueAt vs k):=by
 unfold KV at r
 induction r with
 |nil=>exact True.intro
 | @cons p q ps qs h t ih=>
  obtain⟨h1,h2⟩:=h
  by_cases e:p.1=k
  ·have e':q.1=k:=h1.symm.trans e
   have b:valueAt (q::qs) k=some q.2:=by simp[valueAt,List.find?_cons,e']
   rw[gR e,b];exact h2
  ·have e':¬q.1=k:=fun z=>e (h1.trans z)
   have b:valueAt (q::qs) k=valueAt qs k:=by simp[valueAt,List.find?_cons,e']
   rw[gP e,b];exact ih
theorem KV.any{kvs:List (κ×V)}{vs:List (κ×Value)}(r:KV kvs vs)(k:κ):(kvs.any fun kv=>decide (kv.1=k))=vs.any fun kv=>decide (kv.1=k):=by
 unfold KV at r
 induction r with
 |nil=>rfl
 |cons h t ih=>rw[List.any_cons,List.any_cons,ih,h.1]
theorem KV.zJ{kvs:List (κ×V)}{vs:List (κ×Value)}(r:KV kvs vs)(k:κ){y:V}{u:Value}(ry:RelV y u):
  KV (kvs.map fun kv=>if kv.1=k then(kv.1,y)else kv) (vs.map fun kv=>if kv.1=k then(kv.1,u)else kv):=by
 unfold KV at r ⊢
 induction r with
 |nil=>exact .nil
 | @cons p q ps qs h t ih=>
  rw[List.map_cons,List.map_cons]
  refine .cons ?_ ih
  obtain⟨h1,h2⟩:=h
  by_cases e:p.1=k
  ·rw[if_pos e,if_pos (h1.symm.trans e)];exact⟨h1,ry⟩
  ·rw[if_neg e,if_neg (fun z=>e (h1.trans z))];exact⟨h1,h2⟩
theorem KV.put{kvs:List (κ×V)}{vs:List (κ×Value)}(r:KV kvs vs)(k:κ){y:V}{u:Value}(ry:RelV y u):KV (putK kvs k y) (stored vs k u):=by
 unfold putK stored
 rw[r.any k]
 by_cases e:(vs.any fun kv=>decide (kv.1=k))=true
 ·rw[if_pos e,if_pos e];exact r.zJ k ry
 ·rw[if_neg e,if_neg e];exact Paired.snoc r ⟨rfl,ry⟩
theorem KV.length{kvs:List (κ×V)}{vs:List (κ×Value)}(r:KV kvs vs):kvs.length=vs.length:=Paired.length r
end
theorem mf{P:Program}{w:World}{k:Key}{u:Value}(r:RelV (kV k) u):(eK P w).is k u=true:=by
 cases k with
 |inl i=>obtain⟨t,e⟩:=(show ∃t,u=Value.int i t from r);subst e;exact P1 P w i t
 |inr x=>obtain⟨t,e⟩:=(show ∃t,u=Value.str x t from r);subst e;exact Iy P w x t
theorem DY{P:Program}{w:World}:∀{ks:List Key}{us:List Value},aT (ks.map kV) us->ItemsAre (eK P w) ks us
 |[],_,r=>by rw[List.map_nil]at r;cases r;exact .nil
 |k::ks,_,r=>by
  rw[List.map_cons]at r
  cases r with
  |cons h t=>exact .cons (mf h) (DY t)
abbrev KT(H:Hp):List (List Key×V)->List (List Key×Addr×Value)->Prop:=Paired fun p q=>p.1=q.1/\H q.2.1=some (.tup (p.1.map kV))/\RelV p.2 q.2.2
theorem KT.val{H:Hp}{kvs:List (List Key×V)}{xs:List (List Key×Addr×Value)}(r:KT H kvs xs)(k:List Key):dk (bR kvs k) ((atKey xs k).map (·.2)):=by
 induction r with
 |nil=>exact True.intro
 | @cons p q ps qs h t ih=>
  obtain⟨h1,_,h2⟩:=h
  by_cases e:p.1=k
  ·have e':q.1=k:=h1.symm.trans e
   have b:atKey (q::qs) k=some q.2:=by simp[atKey,List.find?_cons,e']
   rw[gR e,b];exact h2
  ·have e':¬q.1=k:=fun z=>e (h1.trans z)
   have b:atKey (q::qs) k=atKey qs k:=by simp[atKey,List.find?_cons,e']
   rw[gP e,b];exact ih
theorem KT.zJ{H:Hp}{kvs:List (List Key×V)}{xs:List (List Key×Addr×Value)}(r:KT H kvs xs)(k:List Key){y:V}{u:Value}(ry:RelV y u):
  KT H (kvs.map fun kv=>if kv.1=k then(kv.1,y)else kv) (xs.map (putAt k u)):=by
 induction r with
 |nil=>exact .nil
 | @cons p q ps qs h t ih=>
  rw[List.map_cons,List.map_cons]
  refine .cons ?_ ih
  obtain⟨h1,h2,h3⟩:=h
  unfold putAt
  by_cases e:p.1=k
  ·rw[if_pos e,if_pos (h1.symm.trans e)];exact⟨h1,h2,ry⟩
  ·rw[if_neg e,if_neg (fun z=>e (h1.trans z))];exact⟨h1,h2,h3⟩
theorem KT.put{H:Hp}{kvs:List (List Key×V)}{xs:List (List Key×Addr×Value)}(r:KT H kvs xs)(k:List Key){b:Addr}{y:V}{u:Value}(hb:H b=some (.tup (k.map kV)))(ry:RelV y u):
  KT H (putK kvs k y) (storedH xs k b u):=by
 have e:(kvs.any fun kv=>decide (kv.1=k))=(atKey xs k).isSome:=by
  rw[vT,(r.val k).t6,Option.isSome_map]
 unfold putK storedH
 rw[e]
 by_cases q:(atKey xs k).isSome=true
 ·rw[if_pos q,if_pos q];exact r.zJ k ry
 ·rw[if_neg q,if_neg q];exact Paired.snoc r ⟨rfl,hb,ry⟩
theorem KT.keeps{H H':Hp}{kvs:List (List Key×V)}{xs:List (List Key×Addr×Value)}(r:KT H kvs xs)(ht:∀b ys,H b=some (.tup ys)->H' b=some (.tup ys)):KT H' kvs xs:=
 Paired.zo r fun _ _ z=>⟨z.1,ht _ _ z.2.1,z.2.2⟩
section
variable {P:Program}{w:World}{H:Hp}{h:Heap}{a:Addr}
theorem DV{u:HO}(ok:bC P w H h)(e:Rd H a u):cu P w H h a u:=e.ok ok
theorem tL{kvs:List (Key×V)}(ok:bC P w H h)(e:Rd H a (.dK kvs)):kvs.length<=sizeLine/\(a==sysModules)=false/\∃vs,KV kvs vs/\h.DictOf (eK P w) a vs:=
 show cu P w H h a (.dK kvs)from DV ok e
theorem NF{kvs:List (Key×V)}(ok:bC P w H h)(e:H a=some (.dK kvs)):kvs.length<=sizeLine/\(a==sysModules)=false/\∃vs,KV kvs vs/\h.DictOf (eK P w) a vs:=tL ok (.inl e)
theorem tj{ks:List Key}(ok:bC P w H h)(e:H a=some (.tup (ks.map kV))):(tupleKind (eK P w)).is h ks a:=by
 obtain⟨_,its,r,o,h1,h2,n,h3⟩:=(show cu P w H h a (.tup (ks.map kV))from ok a _ e)
 exact⟨o,its.toArray,n,h1,h2,h3,by simpa using DY r⟩
theorem uB{kvs:List (List Key×V)}(ok:bC P w H h)(e:Rd H a (.dT kvs)):kvs.length<=sizeLine/\(a==sysModules)=false/\
  ∃xs,KT H kvs xs/\h.DictOfH (tupleKind (eK P w)) a xs:=by
 obtain⟨z,y,xs,r,o,es,ep,h1,h2,h3,h4,h5⟩:=(show cu P w H h a (.dT kvs)from DV ok e)
 refine⟨z,y,xs,r,o,es,ep,h1,h2,h3,h4,fun x hx=>?_,h5⟩
 have all:∀{l:List (List Key×V)}{m:List (List Key×Addr×Value)},KT H l m->∀x∈m,(tupleKind (eK P w)).is h x.1 x.2.1:=by
  intro l m q
  induction q with
  |nil=>intro x hx;exact nomatch hx
  | @cons p q ps qs hq t ih=>
   intro x hx
   rcases List.mem_cons.mp hx with e|hx
   ·subst e
    exact tj ok (by rw[<-hq.1];exact hq.2.1)
   ·exact ih x hx
 exact all r x hx
theorem Kk{kvs:List (List Key×V)}(ok:bC P w H h)(e:H a=some (.dT kvs)):kvs.length<=sizeLine/\(a==sysModules)=false/\
  ∃xs,KT H kvs xs/\h.DictOfH (tupleKind (eK P w)) a xs:=uB ok (.inl e)
end
def gn(H:Hp)(a:Addr)(y:V)(r:Option V):Prop:=
 (∃kvs k,Rd H a (.dK kvs)/\y=kV k/\r=bR kvs k)\/∃kvs k b,Rd H a (.dT kvs)/\y=.ref b/\H b=some (.tup (k.map kV))/\r=bR kvs k
def ia(H:Hp)(a:Addr)(y v:V)(H':Hp):Prop:=
 (∃kvs k,H a=some (.dK kvs)/\y=kV k/\kvs.length<sizeLine/\H'=upd H a (.dK (putK kvs k v)))\/
 ∃kvs k b,H a=some (.dT kvs)/\y=.ref b/\H b=some (.tup (k.map kV))/\kvs.length<sizeLine/\H'=upd H a (.dT (putK kvs k v))
theorem gn.k{H:Hp}{a:Addr}{kvs:List (Key×V)}{k:Key}(e:H a=some (.dK kvs)):gn H a (kV k) (bR kvs k):=.inl ⟨kvs,k,.inl e,rfl,rfl⟩
theorem gn.t{H:Hp}{a b:Addr}{kvs:List (List Key×V)}{k:List Key}(e:H a=some (.dT kvs))(eb:H b=some (.tup (k.map kV))):gn H a (.ref b) (bR kvs k):=.inr ⟨kvs,k,b,.inl e,rfl,eb,rfl⟩
theorem ia.k{H:Hp}{a:Addr}{kvs:List (Key×V)}{k:Key}{v:V}(e:H a=some (.dK kvs))(hl:kvs.length<sizeLine):ia H a (kV k) v (upd H a (.dK (putK kvs k v))):=.inl ⟨kvs,k,e,rfl,hl,rfl⟩
theorem ia.t{H:Hp}{a b:Addr}{kvs:List (List Key×V)}{k:List Key}{v:V}(e:H a=some (.dT kvs))(eb:H b=some (.tup (k.map kV)))(hl:kvs.length<sizeLine):
  ia H a (.ref b) v (upd H a (.dT (putK kvs k v))):=.inr ⟨kvs,k,b,e,rfl,eb,hl,rfl⟩
section
variable {X:Cx}{pins:List (Addr×Obj)}{σ:St}{H:Hp}{s:Shared}{a:Addr}{y v:V}{u r:Value}{o:Option V}{A:Around}{E:Value->Shared->Prop}
theorem Inv.big(I:Inv X pins σ H s):sysModules<s.heap.objs.size:=by
 have h:mainGlobals<s.heap.objs.size:=(I.mod.glob.keeps I.bk).lt
 exact Nat.lt_trans (by decide) h
theorem M5{Q:Value->Shared->Prop}(hu:A.units+1<cLine)(I:Inv X pins σ H s)(g:gn H a y o)(ry:RelV y u)(h:∀s',Inv X pins σ H s'->Q (.bool o.isSome) s'):
  wpAny (model X.prog X.w) A (compareOp .In u (.ref a)) Q E s:=by
 rcases g with ⟨kvs,k,e,ey,l⟩|⟨kvs,k,b,e,ey,eb,l⟩
 ·subst ey
  obtain⟨z,hd,vs,rel,dd⟩:=tL I.aA e
  refine wpAny_in_of (mf ry) hd dd.mapOf ?_
  rw[<-(rel.val k).t6,<-l]
  exact h _ (I.tok _)
 ·subst ey
  cases (show u=Value.ref b from ry)
  obtain⟨z,hd,xs,rel,dd⟩:=uB I.aA e
  refine wpAny_in_heap (tupleKind_room_in1 hu) (tj I.aA eb) hd dd ?_
  have q:=(rel.val k).t6
  rw[Option.isSome_map]at q
  rw[<-q,<-l]
  exact h _ (I.tok _)
theorem GH{h':Heap}{t':Nat}{ob:HO}(I:Inv X pins σ H s)(mu:rj (H a))(hs:Heap.SameBut a s.heap h')(he:∃q,h'.get? a=some q)(new:cu X.prog X.w (upd H a ob) h' a ob):
  Inv X pins σ (upd H a ob) {s with heap:=h',toks:=t'}:=
 I.write (x:=a) (e:=a) mu (.inl rfl) (fun b q hb z=>(hs.2 b hb).trans z) he new
theorem KJ{P:Program}{w:World}{H':Hp}{h':Heap}{kvs:List (Key×V)}{vs:List (Key×Value)}(z:kvs.length<=sizeLine)(hd:(a==sysModules)=false)(rel:KV kvs vs)(dd:h'.DictOf (eK P w) a vs):
  cu P w H' h' a (.dK kvs):=⟨z,hd,vs,rel,dd⟩
theorem IJ{H':Hp}{Q:Unit->Shared->Prop}(hu:A.units+1<cLine)(I:Inv X pins σ H s)(g:ia H a y v H')(ry:RelV y u)(rv:RelV v r)(h:∀s',Inv X pins σ H' s'->Q () s'):
  wpAny (model X.prog X.w) A (setItem (.ref a) u r) Q E s:=by
 rcases g with ⟨kvs,k,e,ey,l,eH⟩|⟨kvs,k,b,e,ey,eb,l,eH⟩
 ·subst ey eH
  obtain⟨z,hd,vs,rel,dd⟩:=NF I.aA e
  have hz:vs.length<=sizeLine:=by rw[<-rel.length];exact z
  have hl:(putK kvs k v).length<=sizeLine:=by have:=ny kvs k v;lia
  refine wpAny_setItem_pairs (hsz:=hz) (mf ry) dd fun h' dd' hs=>h _ ?_
  have he:∃q,h'.get? a=some q:=let⟨q,_,_,hq,_⟩:=dd';⟨q,hq⟩
  exact GH I (by rw[e];exact True.intro) hs he (KJ hl hd (rel.put k rv) dd')
 ·subst ey eH
  cases (show u=Value.ref b from ry)
  obtain⟨z,hd,xs,rel,dd⟩:=Kk I.aA e
  have hz:xs.length<=sizeLine:=by rw[<-Paired.length rel];exact z
  have hl:(putK kvs k v).length<=sizeLine:=by have:=ny kvs k v;lia
  refine wpAny_setItem_heap (hsz:=hz) (tupleKind_room_in1 hu) (tj I.aA eb) dd fun h' dd' hs=>h _ ?_
  obtain⟨q,es,ep,hq,h2,h3,h4,_,h5⟩:=dd'
  refine GH I (by rw[e];exact True.intro) hs ⟨q,hq⟩ ⟨hl,hd,_,(rel.put k eb rv).keeps fun c ys ec=>?_,q,es,ep,hq,h2,h3,h4,h5⟩
  rw[ak (bQ ec e (fun z=>nomatch z))]
  exact ec
end
section
variable {X:Cx}{pins:List (Addr×Obj)}{σ:St}{H:Hp}{s:Shared}{a:Addr}{kvs:List (Key×V)}{k:Key}{u:Value}{A:Around}{E:Value->Shared->Prop}
end
def GV(i:Expr):Prop:=∀ov iv,subscripted i false ov iv=operate [ov,iv] (getItem ov iv)
theorem Lv{prog:Program}{w:World}{A:Around}{E:Value->Shared->Prop}{s:Shared}{env:Env}{value slice:Expr}{pos:Pos}{T id:String}{Q:Value->Shared->Prop}
  (hl:typeLookup (.type T) "__getitem__"=pure (some (.builtin id))) (hs:GV slice)
  (h:wpAny (model prog w) A (eval value env) (fun o s₁=>wpAny (model prog w) A (eval slice env) (fun i s₂=>s₂.TypeIs o T/\wpAny (model prog w) A (getItem o i) Q E s₂) E s₁) E s):
  wpAny (model prog w) A (eval (.Subscript value slice pos) env) Q E s:=by
 refine Subscript_ (wpAny_mono h (fun o s₁ h₁=>wpAny_mono h₁ (fun i s₂ h₂=>?_) fun _ _ x=>x) fun _ _ x=>x)
 obtain⟨hT,h₂⟩:=h₂
 unfold subscriptTail
 refine wpAny_bind ?_
 rw[getitemInPython_of_ne hT.not_modules]
 refine wpAny_bind (wpAny_specialOf hT hl ?_)
 have fin:wpAny (model prog w) A (subscripted slice false o i) (fun r s₃=>wpAny (model prog w) A (letTemporaryGo value o r>>=fun _=>pure r) Q E s₃) E s₂:=by
  rw[hs o i]
  exact wpAny_operating (wpAny_mono h₂ (fun r s₃ h₃=>wpAny_bind (wpAny_letTemporaryGo (wpAny_pure h₃))) fun _ _ x=>x)
 first
  |exact wpAny_pure (wpAny_bind fin)
  |exact wpAny_bind (wpAny_pure (wpAny_bind fin))
  |exact wpAny_bind fin
def Oo(ty td:TE):TE:=fun σ H Q=>ty σ H fun y H1=>td σ H1 fun x H2=>∃a o,x=.ref a/\gn H2 a y o/\Q (.bl o.isSome) H2
def Nb(td ty tv:TE):TS:=fun D σ H=>tv σ H fun v H1=>td σ H1 fun x H2=>ty σ H2 fun y H3=>∃a H4,x=.ref a/\ia H3 a y v H4/\D.nx σ H4
section
variable {X:Cx}{o i e value:Expr}{pos pos' tpos:Pos}{td ty tv:TE}
theorem BO(hu:X.A.units+1<cLine)(hi:PE X i ty)(ho:PE X o td):PC X .In i o (Oo ty td):=by
 intro pins s σ H Q I h
 refine aJ (hi pins s σ H _ I h) fun iv s1⟨y,H1,I1,ry,q1⟩=>aJ (ho pins s1 σ H1 _ I1 q1) fun u s2 hh38=>?_
 obtain⟨x,H2,I2,rx,a,ov,ex,g,q2⟩:=hh38
 subst ex
 obtain rfl:u=Value.ref a:=rx
 exact M5 hu I2 g ry fun s3 I3=>⟨.bl ov.isSome,H2,I3,rfl,q2⟩
theorem uc(hu:X.A.units+1<cLine)(ho:PE X o td)(hi:PE X i ty)(hv:PE X value tv)(hs:swapsWith value (some (.Subscript o i pos')) pos.line X.env=pure false):
  PS X (.Assign [.Subscript o i pos'] value pos) (Nb td ty tv):=by
 intro pins s σ H D I h
 refine wpAny_Assign_Subscript (aJ (hv pins s σ H _ I h) fun r s1⟨v,H1,I1,rv,q1⟩=>aJ (ho pins s1 σ H1 _ I1 q1) fun u s2⟨x,H2,I2,rx,q2⟩=>aJ (hi pins s2 σ H2 _ I2 q2) fun iv s3 hh39=>?_) hs
 obtain⟨y,H3,I3,ry,a,H4,ex,g,q3⟩:=hh39
 subst ex
 obtain rfl:u=Value.ref a:=rx
 exact IJ hu I3 g ry rv fun s4 I4=>⟨σ,H4,I4,q3⟩
end
theorem Qa{P:Program}{w:World}{H:Hp}(h:Heap)(hb:sysModules<h.objs.size):cu P w H (h.push {cls:=.type "dict",data:=.dict #[]}) h.objs.size (.dK []):=
 ⟨Nat.zero_le _,beq_eq_false_iff_ne.mpr (Ne.symm (Nat.ne_of_lt hb)),[],.nil,Heap.DictOf.new h⟩
theorem Jd{P:Program}{w:World}{H:Hp}(h:Heap)(hb:sysModules<h.objs.size):cu P w H (h.push {cls:=.type "dict",data:=.dict #[]}) h.objs.size (.dT []):=
 ⟨Nat.zero_le _,beq_eq_false_iff_ne.mpr (Ne.symm (Nat.ne_of_lt hb)),[],.nil,_,#[],0,Heap.get?_push_size _ rfl,⟨rfl,rfl,rfl⟩,rfl,rfl,List.nodup_nil⟩
def Lj:TE:=fun _ H Q=>∀p,H p=none->Q (.ref p) (upd H p (.dK []))
def IA:TE:=fun _ H Q=>∀p,H p=none->Q (.ref p) (upd H p (.dT []))
section
variable {X:Cx}{pos:Pos}
theorem A6:PE X (.Dict [] [] pos) Lj:=fun pins s σ H Q I h=>
 wpAny_Dict_empty ⟨.ref s.heap.objs.size,_,I.laid (a:=s.heap.objs.size) (o:=.dK []) (t':=s.toks) (fun _ _ q=>Heap.get?_push_of_some _ q) (Nat.le_refl _) (Qa s.heap I.big),rfl,h _ (I.aA.fresh (Nat.le_refl _))⟩
theorem Qt:PE X (.Dict [] [] pos) IA:=fun pins s σ H Q I h=>
 wpAny_Dict_empty ⟨.ref s.heap.objs.size,_,I.laid (a:=s.heap.objs.size) (o:=.dT []) (t':=s.toks) (fun _ _ q=>Heap.get?_push_of_some _ q) (Nat.le_refl _) (Jd s.heap I.big),rfl,h _ (I.aA.fresh (Nat.le_refl _))⟩
end
structure M2(X:Cx)(o:Expr)(m:Str)(apos:Pos)(e f:Expr)(cpos:Pos):Prop where
 base:attributeBase o m X.env (eval o X.env)=eval o X.env
 Na:((backTo cpos (starEach [e,f] X.env)).all (fun x=> !x.1)&&(backToKw cpos (keywordEach [] X.env)).all (fun x=>x.1.isSome)
  &&decide (([e,f]:List Expr).length+([]:List Keyword).length+(if([]:List Keyword).isEmpty then 0 else 1)<30))=true
 line:(apos.endLine==cpos.line)=true
 trees:backTo cpos (starEach [e,f] X.env)=[(false,eval e X.env),(false,eval f X.env)]
def EG(H:Hp)(a:Addr):Prop:=(∃kvs,Rd H a (.dK kvs))\/∃kvs,Rd H a (.dT kvs)
theorem Mw{X:Cx}{pins:List (Addr×Obj)}{σ:St}{H:Hp}{s:Shared}{a:Addr}(I:Inv X pins σ H s)(d:EG H a):
  s.TypeIs (.ref a) "dict"/\(∀b,Value.ref a=.ref b->∃ob,s.heap.get? b=some ob/\ob.dict=none)/\(a==sysModules)=false:=by
 rcases d with ⟨kvs,e⟩|⟨kvs,e⟩
 ·obtain⟨_,hd,vs,_,dd⟩:=tL I.aA e
  refine⟨dd.typeIs,fun b q=>?_,hd⟩
  cases q
  obtain⟨ob,_,_,h1,h2,_⟩:=dd
  exact⟨ob,h1,h2.2.1⟩
 ·obtain⟨_,hd,xs,_,dd⟩:=uB I.aA e
  refine⟨dd.typeIs,fun b q=>?_,hd⟩
  cases q
  obtain⟨ob,_,_,h1,h2,_⟩:=dd
  exact⟨ob,h1,h2.2.1⟩
section
variable {X:Cx}{pins:List (Addr×Obj)}{σ:St}{H:Hp}{s:Shared}{a:Addr}{y d:V}{u r:Value}{o:Option V}{A:Around}{E:Value->Shared->Prop}
theorem Ip{Q:Value->Shared->Prop}(hu:A.units+1<cLine)(I:Inv X pins σ H s)(g:gn H a y o)(ry:RelV y u)(rd:RelV d r)(h:∀w' s',Inv X pins σ H s'->RelV (o.getD d) w'->Q w' s'):
  wpAny (model X.prog X.w) A (call (.builtin "dict.get") [.ref a,u,r]) Q E s:=by
 rcases g with ⟨kvs,k,e,ey,l⟩|⟨kvs,k,b,e,ey,eb,l⟩
 ·subst ey
  obtain⟨z,hd,vs,rel,dd⟩:=tL I.aA e
  refine call_meetsIn PySem.F.slot_dict_get dd.typeIs PySem.F.entry_dict_get (PySem.F.args_dict_get_3 _ _ _) (meets_dict_get_default (eK X.prog X.w) a (mf ry) hd r) ⟨_,dd.mapOf,h _ _ (I.tok _) ?_⟩
  rw[l]
  exact(rel.val k).getD rd
 ·subst ey
  cases (show u=Value.ref b from ry)
  obtain⟨z,hd,xs,rel,dd⟩:=uB I.aA e
  refine call_meetsIn PySem.F.slot_dict_get dd.typeIs PySem.F.entry_dict_get (PySem.F.args_dict_get_3 _ _ _) (meetsH_dict_get_default (tupleKind (eK X.prog X.w)) a b hd r) ⟨tupleKind_room_in1 hu,k,xs,tj I.aA eb,dd,h _ _ (I.tok _) ?_⟩
  rw[l]
  exact(rel.val k).getD rd
end
def Ow(td ty tx:TE):TE:=fun σ H Q=>td σ H fun x H1=>∃a,x=.ref a/\EG H1 a/\ty σ H1 fun y H2=>tx σ H2 fun z H3=>∃o,gn H3 a y o/\Q (o.getD z) H3
section
variable {X:Cx}{o e f:Expr}{apos cpos:Pos}{td ty tx:TE}
theorem Cr(hu:X.A.units+1<cLine)(ho:PE X o td)(he:PE X e ty)(hf:PE X f tx)(m:M2 X o "get" apos e f cpos):PE X (.Call (.Attribute o "get" apos) [e,f] [] cpos) (Ow td ty tx):=by
 intro pins s σ H Q I h
 refine wpAny_Call_method m.base m.Na m.line PySem.F.plainAttrs_dict PySem.F.slot_dict_get PySem.F.type_dict_get (aJ (ho pins s σ H _ I h) fun u s1 hh40=>?_)
 obtain⟨x,H1,I1,rx,a,ex,d,q1⟩:=hh40
 subst ex
 obtain rfl:u=Value.ref a:=rx
 obtain⟨t1,t2,_⟩:=Mw I1 d
 refine⟨t1,t2,?_⟩
 rw[m.trees]
 refine Calls.callWith_builtin rfl (Calls.evalArgs_plain (Calls.spliced_cons (aJ (he pins s1 σ H1 _ I1 q1) fun iv s2⟨y,H2,I2,ry,q2⟩=>
  Calls.spliced_cons (aJ (hf pins s2 σ H2 _ I2 q2) fun fv s3⟨z,H3,I3,rz,ov,g,q3⟩=>Calls.spliced_nil ?_))))
 exact Ip hu I3 g ry rz fun w' s4 I4 rw'=>⟨_,H3,I4,rw',q3⟩
end
section
variable {X:Cx}{pins:List (Addr×Obj)}{σ:St}{H:Hp}{s:Shared}{a:Addr}{kvs:List (Key×V)}{A:Around}{E:Value->Shared->Prop}
end
section
variable {X:Cx}{pins:List (Addr×Obj)}{σ:St}{H:Hp}{s:Shared}{a:Addr}{y:V}{u:Value}{A:Around}{E:Value->Shared->Prop}
end
end L2
namespace L2
open PySem PySem.Spec PyProof.Rows
section
variable {prog:Program}{w:World}{A:Around}{E:Value->Shared->Prop}
end
section
variable {X:Cx}
end
end L2
namespace L2
open PySem PySem.Spec PyProof.Rows
section
variable {X:Cx}{pins:List (Addr×Obj)}{σ:St}{H:Hp}{s:Shared}{h':Heap}
end
section
variable {X:Cx}
theorem A9{tg:Expr}{pins:List (Addr×Obj)}{σ:St}{H:Hp}{s:Shared}{R:It->Hp->Prop}{J:It}{tn:Nat->Heap->Prop}{tk:Nat}(I:Inv X pins σ H s)(o:Obj)
  (T:Turn X.prog X.w X.K tg J [s.heap.objs.size] s.heap.objs.size tn) (st:tn 0 (s.heap.push o)) (q:R J H):Dr X pins σ tg R (.ref s.heap.objs.size) {s with heap:=s.heap.push o,toks:=tk}:=by
 refine⟨s.heap.objs.size,[s.heap.objs.size],tn,J,H,rfl,I.kept fun b ob e=>Heap.get?_push_of_some _ e,T,st,fun b hb=>?_,q⟩
 have e:b=s.heap.objs.size:=by simpa using hb
 subst e
 exact I.v5 (Nat.le_refl _) (I.aA.fresh (Nat.le_refl _))
end
section
variable {X:Cx}{tg:Expr}
end
section
variable {X:Cx}{tg:Expr}
end
def rg(x:Str):It:=⟨fun i _=>i<x.cps.size,fun i H v H'=>H'=H/\∃c,x.cps[i]? =some c/\v=.str ⟨#[c]⟩,fun i _=>x.cps.size<=i⟩
theorem BM{P:Program}{w:World}{K:PySem.W.Frag}{tg:Expr}(it:Addr)(x:Str)(t:Tok)(ty:String)(hty:ty="str_ascii_iterator"\/ty="str_iterator"):
  Turn P w K tg (rg x) [it] it (fun i h=>h.IsStrIter it ty x t i) where
 mem:=by simp
 obj:=fun i h st b hb=>by
  have e:b=it:=by simpa using hb
  subst e
  obtain⟨o,e,c,d⟩:=st
  exact⟨o,e,fun v z=>by rw[d]at z;cases z⟩
 keep:=fun i h h' st k=>let⟨o,ho,r⟩:=st;⟨o,k it (by simp) o ho,r⟩
 item:=by
  intro X hP hw hK hc i pins s σ H E I hf st hg
  subst hP hw hK
  obtain⟨f0,f1,f2,f3,f4,f5⟩:=hf it (by simp)
  have W:Walks X.prog X.w X.A it [it] [it] x.cps.size (SignAt x) (fun i h=>h.IsStrIter it ty x t i):=by
   rcases hty with e|e
   ·rw[e];exact Walks.strAscii (I.ok.hd hc) it x t
   ·rw[e];exact Walks.strWide (I.ok.hd hc) it x t
  have hno:["enumerate","zip","dict_itemiterator","dict_reverseitemiterator","odict_iterator","itertools.zip_longest","itertools.pairwise"].contains ty=false:=by
   rcases hty with e|e
   ·rw[e];decide
   ·rw[e];decide
  refine W.item i s _ _ hg st fun v h' tk hv st' kk=>?_
  obtain⟨c,u,hcx,rfl⟩:=hv
  have I1:Inv X pins σ H {s with heap:=h',toks:=tk}:=I.turned (fun b o hb e=>kk b o (by simpa using hb) e) f0 f1 f3 f4 f5
  obtain⟨oi,e,cc,dd⟩:=id st'
  exact⟨_,rfl,Bp (s:={s with heap:=h',toks:=tk}) e cc dd hno ⟨.str ⟨#[c]⟩,H,I1,⟨u,rfl⟩,⟨rfl,c,hcx,rfl⟩,st',fun b hb=>(hf b hb).1⟩⟩
 done:=by
  intro X hP hw hK hc i pins s σ H E I hf st hg
  subst hP hw hK
  obtain⟨f0,f1,f2,f3,f4,f5⟩:=hf it (by simp)
  have hx:x.cps[i]? =none:=Array.getElem?_eq_none hg
  rcases hty with e|e
  ·rw[e]at st
   exact wpAny_pyNext_ascii_end (I.ok.hd hc) st hx fun h' eb=>⟨rfl,I.turned (t':=s.toks) (fun b o hb e=>eb b o hb e) f0 f1 f3 f4 f5⟩
  ·rw[e]at st
   exact wpAny_pyNext_wide_end (I.ok.hd hc) st hx fun h' eb=>⟨rfl,I.turned (t':=s.toks) (fun b o hb e=>eb b o hb e) f0 f1 f3 f4 f5⟩
 self:=fun A i s Q E st h=>by
  rcases hty with e|e
  ·rw[e]at st;exact wpAny_pyIter_striter_ascii st h
  ·rw[e]at st;exact wpAny_pyIter_striter_wide st h
def Iz(te:TE):TI:=fun σ H R=>te σ H fun v H1=>∃x,v=.str x/\R (rg x) H1
theorem Ky{X:Cx}{tg e:Expr}{te:TE}(he:PE X e te):PI X tg e (Iz te):=by
 intro pins s σ H R I h
 refine aJ (he pins s σ H _ I h) fun v s1 hh41=>?_
 obtain⟨y,H1,I1,r1,x,ex,q⟩:=hh41
 subst ex
 obtain⟨t,rfl⟩:=r1
 cases ha:x.cps.all (· <128)
 ·exact wpAny_pyIter_wide ha (A9 (tk:=s1.toks) I1 _ (BM _ x t "str_iterator" (.inr rfl)) ⟨_,Heap.get?_push_size _ rfl,rfl,rfl⟩ q)
 ·exact wpAny_pyIter_ascii ha (A9 (tk:=s1.toks) I1 _ (BM _ x t "str_ascii_iterator" (.inl rfl)) ⟨_,Heap.get?_push_size _ rfl,rfl,rfl⟩ q)
section
variable {prog:Program}{w:World}{A:Around}{E:Value->Shared->Prop}{s:Shared}
end
section
variable {X:Cx}{pins:List (Addr×Obj)}{σ:St}{H:Hp}{s:Shared}{d:Addr}{o:Obj}
end
section
variable {P:Program}{w:World}{K:PySem.W.Frag}{tg:Expr}{d:Addr}{o:Obj}{es:Array DictEntry}{ep:Nat}
end
section
variable {X:Cx}{tg e:Expr}{td:TE}{apos cpos:Pos}
end
end L2
section
namespace Bits
open PySem PyProof.Rows
end Bits
end
section
namespace TL
open PySem PySem.Builtin PySem.Builtin.Str PySem.StrLaws
abbrev tl(x:Str):List Nat:=x.cps.toList
theorem DG(x y:Str):tl (x++y)=tl x++tl y:=by
 show(x++y).cps.toList=_
 rw[Str.cps_append,Array.toList_append]
def j9(S:List Nat):List (List Nat)->List Nat
 |[]=>[]
 |[p]=>p
 |p::q::r=>p++(S++j9 S (q::r))
theorem wO(y:Str):∀parts:List Str,tl (Str.join y parts)=j9 (tl y) (parts.map tl)
 |[]=>rfl
 |[_]=>rfl
 |x::z::r=>by
  show tl (x++y++Str.join y (z::r))=tl x++(tl y++j9 (tl y) ((z::r).map tl))
  rw[DG,DG,wO y (z::r),List.append_assoc]
theorem join_eq(y:Str)(parts:List Str):Txt.join y parts=Str.join y parts:=glued_eq_join y parts
end TL
end
namespace L2
open PySem PySem.Spec PyProof.Rows
theorem zF:∀{ys:List Str}{us:List Value},aT (ys.map V.str) us->StrsAre us ys
 |[],_,.nil=>.nil
 |y::ys,_,.cons r t=>by
  obtain⟨k,rfl⟩:=r
  exact .cons y k (zF t)
section
variable {X:Cx}{pins:List (Addr×Obj)}{σ:St}{H:Hp}{s:Shared}{Q:VK}
end
section
variable {X:Cx}
theorem Nu:AB X "str.join" (fun x xs H Q=>∃a p,∃ys:List Str,x=.str a/\xs=[.ref p]/\(aF X.K H p (ys.map V.str)\/fq X.K H p (ys.map V.str))/\
  (ys.map (·.length)).sum+ys.length*a.length<=16777216/\Q (.str (Txt.join a ys)) H):=by
 intro pins s σ H x xs v us Q I rx rs h
 obtain⟨a,p,ys,rfl,rfl,hp,hz,h⟩:=h
 obtain⟨t,rfl⟩:=rx
 cases rs with
 |cons r1 rs=>
  cases rs
  cases r1
  rcases hp with hp|hp
  ·obtain⟨its,r,⟨o,n,ho,hc,_,hd⟩,_⟩:=I.list hp
   exact PyProof.Rows.join_list (items:=its.toArray) ⟨o,ho,hc,n,hd⟩ (by rw[List.toList_toArray];exact zF r) hz fun t' k=>⟨.str _,H,I.tok k,⟨t',rfl⟩,h⟩
  ·obtain⟨its,r,ht,_⟩:=I.tuple hp
   exact PyProof.Rows.join_tuple (items:=its.toArray) ht (by rw[List.toList_toArray];exact zF r) hz fun t' k=>⟨.str _,H,I.tok k,⟨t',rfl⟩,h⟩
end
section
variable {X:Cx}{o e:Expr}{to te:TE}
def EV(r:V->List V->Hp->VK->Prop)(to te:TE):TE:=fun σ H Q=>to σ H fun x H1=>(∃a,x=.str a)/\te σ H1 fun y H2=>r x [y] H2 Q
theorem NR{id:String}{name:Str}{apos pos:Pos}{r:V->List V->Hp->VK->Prop}(slot:Slot "str" name id)(ty:typeOf (.builtin id)=pure (.type "method_descriptor"))(rule:AB X id r)(ho:PE X o to)(he:PE X e te)
  (hs:starEach [e] X.env=[(false,eval e X.env)]:=by rfl) (hbase:attributeBase o name X.env (eval o X.env)=eval o X.env:=by rfl) (hline:(apos.endLine==pos.line)=true:=by rfl):
  PE X (.Call (.Attribute o name apos) [e] [] pos) (EV r to te):=by
 intro pins s σ H Q I h
 refine PySem.Call_method1 hbase hs hline (aJ (ho pins s σ H _ I h) fun v s1 hh42=>?_)
 obtain⟨x,H1,I1,r1,q1⟩:=hh42
 obtain⟨⟨a,rfl⟩,q1⟩:=q1
 obtain⟨t,rfl⟩:=_root_.id r1
 refine⟨"str",_,F.plainAttrs_str,slot,ty,typeIs_str _ _ _,(fun _ e=>nomatch e),Calls.callWith_builtin rfl (Calls.evalArgs_plain (Calls.spliced_cons ?_))⟩
 exact aJ (he pins s1 σ H1 _ I1 q1) fun u s2⟨y,H2,I2,r2,q2⟩=>Calls.spliced_nil (rule pins s2 σ H2 _ [y] _ [u] Q I2 r1 (.cons r2 .nil) q2)
theorem se{apos pos:Pos}(ho:PE X o to)(he:PE X e te)(hs:starEach [e] X.env=[(false,eval e X.env)]:=by rfl)(hbase:attributeBase o "join" X.env (eval o X.env)=eval o X.env:=by rfl)(hline:(apos.endLine==pos.line)=true:=by rfl):
  PE X (.Call (.Attribute o "join" apos) [e] [] pos) (EV (fun x xs H Q=>∃a p,∃ys:List Str,x=.str a/\xs=[.ref p]/\(aF X.K H p (ys.map V.str)\/fq X.K H p (ys.map V.str))/\
   (ys.map (·.length)).sum+ys.length*a.length<=16777216/\Q (.str (Txt.join a ys)) H) to te):=
 NR F.slot_str_join F.type_str_join Nu ho he hs hbase hline
end
end L2
namespace L2
open PySem PySem.Spec PyProof.Rows
section
variable {X:Cx}
end
end L2
namespace Att
open PySem PySem.W PySem.Calls PyProof.Rows
section
variable {prog:Program}{w:World}{A:Around}{E:Value->Shared->Prop}{s:Shared}{K:Frag}
end
end Att
namespace L2
open PySem PySem.Spec PyProof.Rows
end L2
namespace L2
open PySem PySem.Spec PyProof.Rows
end L2
namespace L2
open PySem PySem.Spec PyProof.Rows
def inClass(s:Stmt)(j:Nat):Stmt:=match s with
 | .ClassDef _ _ _ body _ _ _ _ _ _ _=>body.getD j (.Pass ⟨0,0,0,0⟩)
 |_=>.Pass ⟨0,0,0,0⟩
def jn(s:Stmt):Arguments:=match s with
 | .FunctionDef _ a _ _ _ _ _ _ _ _=>a
 |_=>{posonlyargs:=[],args:=[],vararg:=none,kwonlyargs:=[],kw_defaults:=[],kwarg:=none,defaults:=[]}
def gb(s:Stmt):List Stmt:=match s with
 | .FunctionDef _ _ b _ _ _ _ _ _ _=>b
 |_=>[]
def aB(s:Stmt):Scope:=match s with
 | .FunctionDef _ _ _ _ _ _ sc _ _ _=>sc
 |_=>{kind:=.function,names:=[],isGenerator:=false,isCoroutine:=false}
abbrev aW:eg:=fun _ _ _ _ _ _=>False
abbrev E0:XK:=fun _ _ _=>False
theorem aU{X:Cx}:Passes aW X E0:=fun _ _ _ _ _ _ _ h=>h.elim
structure aE(K:PySem.W.Frag)(x qual:Str)(st:Stmt)(f:Addr)(fd:FuncData):Prop where
 ex:∃(oc:Value)(od:Option Addr)(kV doc pm:Value)(an:Option Addr)(cdv ct:Value)(osl:Array (Option Value)),
  fd=PySem.W.fnOf x qual (jn st) (gb st) (aB st) .none kV doc pm an cdv ct/\K.lookup f=some ⟨oc,od,.func fd,osl⟩/\PySem.W.codeIn K cdv qual=true
 kp:PySem.W.keepIn K (.ref f)=true
section
variable {P:Program}{w:World}{K:PySem.W.Frag}{mg:Str->Option Value}{base:Heap}
theorem aE.ok{x qual:Str}{st:Stmt}{f:Addr}{fd:FuncData}{N ps:List Str}{k:Nat}{sp:Sp}(F:aE K x qual st f fd)(S:aI N ps (aB st))(len:∀vs H Q E,sp vs H Q E->vs.length=ps.length)
  (hbody:∀(cdv:Value)(A:Around)(outer:List Env)(s:Shared)(H:Hp)(vs:List V)(Q:VK)(E:XK),bA k (A.deeper (envOfC qual (aB st) s.heap.objs.size f cdv))->sp vs H Q E->
   ∃t,dS (fN aW P w K mg base N qual (aB st) f cdv A outer s H E).tV (gb st) t/\t {nx:=fun _ H'=>Q .ax H',rt:=Q} (start N vs) H):ay P w K mg base aW (k+1) f fd ps sp:=by
 obtain⟨oc,od,kV,doc,pm,an,cdv,ct,osl,rfl,lk,hcd⟩:=F.ex
 refine Bk lk hcd S len fun A outer s H vs Q E hr hsp=>?_
 obtain⟨t,h,q⟩:=hbody cdv A outer s H vs Q E hr hsp
 exact⟨t,h.tV,q⟩
theorem aE.binds{x qual:Str}{st:Stmt}{f:Addr}{fd:FuncData}{ps:List Str}(F:aE K x qual st f fd)
  (h:∀(kV doc pm:Value)(an:Option Addr)(cdv ct:Value)(us:List Value),us.length=ps.length->bindArgs (PySem.W.fnOf x qual (jn st) (gb st) (aB st) .none kV doc pm an cdv ct) ⟨us,[]⟩=pure (ps.zip us)):Binds K fd ps []:=by
 obtain⟨oc,od,kV,doc,pm,an,cdv,ct,osl,rfl,lk,hcd⟩:=F.ex
 exact .all (h kV doc pm an cdv ct)
theorem Qv{x qual:Str}{st:Stmt}{f:Addr}{oc:Value}{od an:Option Addr}{osl:Array (Option Value)}{kV doc pm cdv ct:Value}(l:K.lookup f=some ⟨oc,od,.func (PySem.W.fnOf x qual (jn st) (gb st) (aB st) .none kV doc pm an cdv ct),osl⟩)
  (c:PySem.W.codeIn K cdv qual=true) (k:PySem.W.keepIn K (.ref f)=true):aE K x qual st f (PySem.W.fnOf x qual (jn st) (gb st) (aB st) .none kV doc pm an cdv ct):=⟨⟨oc,od,kV,doc,pm,an,cdv,ct,osl,rfl,l,c⟩,k⟩
end
theorem jQ{A:Around}{k:Nat}(hr:bA k A):A.units+1<cLine:=Nat.lt_of_le_of_lt (Nat.add_le_add_left (by decide:1<=64) _) hr.units
theorem Nr{n:Nat}(h:n<=1000):n<sizeLine:=Nat.lt_of_le_of_lt h (by decide)
section
variable {X:Cx}
theorem pv(i:Nat){x:Str}{pos:Pos}(hN:X.N[i]? =some x:=by rfl)(hv:mW X.env.scope x:=by first|exact Or.inl rfl|exact Or.inr (Or.inl rfl)|exact Or.inr (Or.inr rfl))(hd:(x==("__debug__":Str))=false:=by decide)
  (hcd:(x==("__classdict__":Str))=false:=by decide):PE X (.Name x pos) (bD i):=MM hN hv hd hcd
end
theorem cw{A B:Prop}(h:B):if false=true then A else B:=by
 rw[if_neg Bool.false_ne_true]
 exact h
theorem bK{A B:Prop}(h:A):if true=true then A else B:=by
 rw[if_pos rfl]
 exact h
theorem aV{c A B:Prop}[Decidable c](h1:c->A)(h2:¬c->B):if c then A else B:=by
 by_cases h:c
 ·rw[if_pos h]
  exact h1 h
 ·rw[if_neg h]
  exact h2 h
theorem sf{c A B:Prop}[Decidable c](hc:c)(h:B):if(!decide c)=true then A else B:=by
 rw[decide_eq_true hc]
 exact cw h
def aK(H H':Hp):Prop:=∀b o,H b=some o->H' b=some o
theorem aK.refl(H:Hp):aK H H:=fun _ _ h=>h
theorem aK.trans{H H1 H2:Hp}(a:aK H H1)(b:aK H1 H2):aK H H2:=fun c o h=>b c o (a c o h)
theorem aK.free{H H':Hp}(e:aK H H'){l:Addr}(h:H' l=Option.none):H l=Option.none:=by
 cases q:H l with
 |none=>rfl
 |some o=>
  rw[e l o q]at h
  cases h
theorem aK.seq{K:PySem.W.Frag}{H H':Hp}{a:Addr}{xs:List V}(e:aK H H')(h:aF K H a xs):aF K H' a xs:=by
 rcases h with (h|⟨o,h⟩)|h
 ·exact .inl (.inl (e _ _ h))
 ·exact .inl (.inr ⟨o,e _ _ h⟩)
 ·exact .inr h
section
variable {κ:Type}[DecidableEq κ]
end
theorem aK.made{H H1:Hp}{x dx C:Addr}(nx:H x=Option.none)(nd:H dx=Option.none)(k:∀b o,(upd (upd H dx (.own x)) x (.ins C dx [])) b=some o->b≠x->H1 b=some o):aK H H1:=fun b o e=>
 k b o (by rw[ak (d7 e nx),ak (d7 e nd)];exact e) (d7 e nx)
end L2
end
section
set_option Elab.async false
set_option linter.all false
namespace L2
open PySem PySem.Spec PyProof.Rows
theorem eX{α β:Type}{x:β}{f:α->β}{P:α->Prop}(k:α)(e:x=f k)(h:P k):∃k,x=f k/\P k:=⟨k,e,h⟩
theorem rM{s:Option (Option V)}{p C dx:Addr}{H:Hp}{fs:List (Str×V)}{m:Str}{P:V->Prop}(h1:s=some (some (.ref p)))(h2:H p=some (.ins C dx fs))(h3:fs.lookup m=none)(h:P (.ref p)):
  ∃x,s=some (some x)/\∃a dx fs,x=.ref a/\H a=some (.ins C dx fs)/\fs.lookup m=none/\P x:=⟨_,h1,_,_,_,rfl,h2,h3,h⟩
theorem rN{x:V}{p C dx:Addr}{H:Hp}{fs:List (Str×V)}{m:Str}{P:Prop}(h1:x=.ref p)(h2:H p=some (.ins C dx fs))(h3:fs.lookup m=none)(h:P):
  ∃a dx fs,x=.ref a/\H a=some (.ins C dx fs)/\fs.lookup m=none/\P:=⟨_,_,_,h1,h2,h3,h⟩
theorem rF{K:PySem.W.Frag}{s:Option (Option V)}{p C dx:Addr}{H:Hp}{fs:List (Str×V)}{f:Str}{v:V}{P:V->Prop}(h1:s=some (some (.ref p)))(h2:H p=some (.ins C dx fs))(c:eE K C)(n:bu K C f)(l:fs.lookup f=some v)(h:P v):
  ∃x,s=some (some x)/\∃a C dx fs v,x=.ref a/\H a=some (.ins C dx fs)/\eE K C/\bu K C f/\fs.lookup f=some v/\P v:=⟨_,h1,_,_,_,_,_,rfl,h2,c,n,l,h⟩
theorem rG{K:PySem.W.Frag}{x:V}{p C dx:Addr}{H:Hp}{fs:List (Str×V)}{f:Str}{v:V}{P:V->Prop}(h1:x=.ref p)(h2:H p=some (.ins C dx fs))(c:eE K C)(n:bu K C f)(l:fs.lookup f=some v)(h:P v):
  ∃a C dx fs v,x=.ref a/\H a=some (.ins C dx fs)/\eE K C/\bu K C f/\fs.lookup f=some v/\P v:=⟨_,_,_,_,_,h1,h2,c,n,l,h⟩
theorem gS{K:PySem.W.Frag}{s:Option (Option V)}{v:V}{C:Addr}{H:Hp}{t:Value}{b:Bool}{P:Bool->Prop}(h1:s=some (some v))(ty:dZ K H v t)(k:PySem.W.kitOne K t (.ref C)=some b)(h:P b):
  ∃v,s=some (some v)/\∃(x:V)(D:Addr)(t:Value)(b:Bool),[v,.ref C]=[x,.ref D]/\dZ K H x t/\PySem.W.kitOne K t (.ref D)=some b/\∃k,V.bl b=.bl k/\P k:=⟨_,h1,_,_,_,_,rfl,ty,k,_,rfl,h⟩
theorem sH{t u:TS}{D:Ends}{σ:St}{H:Hp}(h:∀R:St->Hp->Prop,(∀σ H,u D σ H->R σ H)->t {D with nx:=R} σ H):jE t u D σ H:=h (u D) fun _ _ z=>z
end L2
end
section
set_option Elab.async false
set_option linter.all false
set_option maxRecDepth 100000
set_option maxHeartbeats 4000000
namespace L2
open PySem PySem.Spec PyProof.Rows
open PySem.W (Looks)
section
variable {prog:Program}{w:World}{A:Around}{E:Value->Shared->Prop}{R:Result->Shared->Prop}{h:Heap}{g:Array GenState}{d:Drawn}{t:Nat}{os:OsState}
variable {nm q:Str}{C N:Addr}{bs bm:List Value}{hdct:Bool}{sn:List Str}{sub:List Value}{ab:Bool}{col:Option Bool}{dd:Option Addr}{k0 k1 k2 k3 k5:Option Value}
theorem JF{M:Model}{rest:List Value}{Q:Unit->Shared->Prop}(hC:h.get? C=some (excClassObj nm q C N bs bm hdct sn sub ab col dd k0 k1 k2 k3 k5 "Exception.__new__"))
  (hB:bm.contains (.type "Exception")=true) (hq:Q () ⟨h,g,d,t,os⟩):wpAny M A (checkBuiltinCall "Exception.__new__" ⟨.ref C::rest,[]⟩) Q E ⟨h,g,d,t,os⟩:=by
 have F:=PySem.F.excBase_Exception
 have c1:(Value.ref C::bm).contains (.type "Exception")=true:=by rw[List.contains_cons,hB,Bool.or_true]
 have hstar:=F.noStar
 simp only[checkBuiltinCall,F.newKind,F.newSplit,F.newRow]
 repeat (first|refine wpAny_loadPart_at hC ?_|(refine wpAny_isSubtype_exc hC ?_;rw[c1])|refine wpAny_staticBase_exc hC ?_|refine wpAny_madeBy_exc hC ?_|simp only[bne_self_eq_false,Bool.false_eq_true,if_false]|wp_step)
 exact hq
theorem Ja{rest:List Value}(hC:h.get? C=some (excClassObj nm q C N bs bm hdct sn sub ab col dd k0 k1 k2 k3 k5 "Exception.__new__"))
  (hB:bm.contains (.type "Exception")=true) (hA:bm.contains (.type "AttributeError")=false) (hN:bm.contains (.type "NameError")=false) (hrest:rest.length<=sizeLine)
  (hq:R (.ok (.ret (.ref (h.objs.size+1)))) ⟨(h.push {cls:=.type "tuple",data:=.seq rest.toArray}).push
   {cls:=.ref C,data:=.fields #[.ref h.objs.size,.none,.none,.none,.bool false,.none]},g,d,t,os⟩):
  codeAny (model prog w) A (.builtin "Exception.__new__" ⟨.ref C::rest,[]⟩) R ⟨h,g,d,t,os⟩:=by
 have F:=PySem.F.excBase_Exception
 have hends:=F.ends
 have c1:(Value.ref C::bm).contains (.type "Exception")=true:=by rw[List.contains_cons,hB,Bool.or_true]
 have c2:(Value.ref C::bm).contains (.type "AttributeError")=false:=by rw[List.contains_cons,hA];rfl
 have c3:(Value.ref C::bm).contains (.type "NameError")=false:=by rw[List.contains_cons,hN];rfl
 refine codeAny_builtinAt F.entry ?_
 unfold Builtin.«BaseException.__new__»;refine PySem.wpAt_bind ?_
 show PySem.wpAt _ _ _ (stack>>=_) _ _ _
 refine PySem.wpAt_bind (PySem.wpAt_stack fun p below=>PySem.wpAt_of_wpAny ?_);wp_walk
 refine PySem.wpAt_of_wpAny ?_;rw[F.owner]
 repeat (first|with_reducible refine wpAny_madeHere_exc F.canon hC ?_|with_reducible refine wpAny_loadPart_at hC ?_|(with_reducible refine wpAny_isSubtype_exc hC ?_;first|rw[c1]|rw[c2]|rw[c3])|wp_step)
 show R _ _
 rw[Heap.size_push];exact hq
theorem Lr{rest:List Value}{fI:Addr}{Q:Fin->Shared->Prop}(hC:h.get? C=some (excClassObj nm q C N bs bm hdct sn sub ab col dd k0 k1 k2 k3 k5 "Exception.__new__"))
  (hB:bm.contains (.type "Exception")=true) (hA:bm.contains (.type "AttributeError")=false) (hN:bm.contains (.type "NameError")=false) (hrest:rest.length<=sizeLine)
  (hi:Looks (model prog w) h (typeLookup (.ref C) "__init__") (some (.ref fI))) (hb:∀self,Looks (model prog w) h (bindSpecial (.ref fI) self) (.ref fI,[self]))
  (hq:∀h' e,Heap.MadeExcOf h h' e (.ref C) rest->h.objs.size<=e->
   wpAny (model prog w) A (call (.ref fI) (.ref e::rest)) (fun r s'=>r=.none/\Q (.done (.ret (.ref e))) s') E ⟨h',g,d,t,os⟩):
  wpAny (model prog w) A (Builtin.«type.__call__» ⟨.ref C::rest,[]⟩) Q E ⟨h,g,d,t,os⟩:=by
 have F:=PySem.F.excBase_Exception
 repeat (first|with_reducible refine wpAny_loadPart_at hC ?_|with_reducible refine wpAny_madeBy_exc hC ?_|wp_step)
 refine codeAny_call_builtin_code (Code.quiet_builtin _ F.quiet) (JF hC hB ?_)
 refine Ja hC hB hA hN hrest ?_
 show wpAny _ _ _ _ _ _
 have kp:∀b o,h.get? b=some o->((h.push {cls:=.type "tuple",data:=.seq rest.toArray}).push {cls:=.ref C,data:=.fields #[.ref h.objs.size,.none,.none,.none,.bool false,.none]}).get? b=some o:=
  fun b o e=>Heap.get?_push_of_some _ (Heap.get?_push_of_some _ e)
 have hC1:=kp _ _ hC
 have hi1:=hi.keeps kp
 have hb1:=fun self=>(hb self).keeps kp
 have hget:((h.push {cls:=.type "tuple",data:=.seq rest.toArray}).push {cls:=.ref C,data:=.fields #[.ref h.objs.size,.none,.none,.none,.bool false,.none]}).get? (h.objs.size+1)=
   some {cls:=.ref C,data:=.fields #[.ref h.objs.size,.none,.none,.none,.bool false,.none]}:=by heap_get
 have cC:(Value.ref C::bm).contains (.ref C)=true:=by simp
 unfold isInstance
 repeat (first|with_reducible refine wpAny_loadPart_at hget ?_|(with_reducible refine wpAny_isSubtype_exc hC1 ?_;rw[cC])|wp_step)
 show wpAny _ _ (typeLookup (.ref C) _) _ _ _
 refine hi1.at ?_
 refine wpAny_holding (wpAny_bind ((hb1 _).at ?_))
 refine wpAny_bind (wpAny_mono (hq _ (h.objs.size+1) ⟨kp,Heap.get?_none_of_le (Nat.le_succ _),h.objs.size,hget,Heap.get?_none_of_le (Nat.le_refl _),?_⟩ (Nat.le_succ _)) (fun r s' hr=>?_) fun _ _ x=>x)
 ·exact Heap.get?_push_of_some _ (Heap.get?_push_at rfl rfl)
 ·obtain⟨rfl,hQ⟩:=hr
  wp_walk
  exact hQ
theorem x_call{rest:List Value}{fI:Addr}{Q:Value->Shared->Prop}(hC:h.get? C=some (excClassObj nm q C N bs bm hdct sn sub ab col dd k0 k1 k2 k3 k5 "Exception.__new__"))
  (hB:bm.contains (.type "Exception")=true) (hA:bm.contains (.type "AttributeError")=false) (hN:bm.contains (.type "NameError")=false) (hrest:rest.length<=sizeLine)
  (hi:Looks (model prog w) h (typeLookup (.ref C) "__init__") (some (.ref fI))) (hb:∀self,Looks (model prog w) h (bindSpecial (.ref fI) self) (.ref fI,[self]))
  (hq:∀h' e,Heap.MadeExcOf h h' e (.ref C) rest->h.objs.size<=e->
   wpAny (model prog w) (A.under (.builtin "type.__call__" ⟨.ref C::rest,[]⟩)) (call (.ref fI) (.ref e::rest)) (fun r s'=>r=.none/\Q (.ref e) s') E ⟨h',g,d,t,os⟩):
  wpAny (model prog w) A (call (.ref C) rest) Q E ⟨h,g,d,t,os⟩:=by
 have f1:=tc_lookup
 have f2:=tc_bind (.ref C)
 have hT:(⟨h,g,d,t,os⟩:Shared).TypeIs (.ref C) "type":=⟨_,hC,rfl⟩
 refine wpAny_call (codeAny_of_tree ?_)
 show wpAny _ _ (callAny (.ref C) _) _ _ _
 repeat (any_goals (first|assumption|with_reducible refine wpAny_loadPart_at hC ?_|wp_step))
 exact⟨rfl,codeAny_call_builtin_at (Code.quiet_builtin _ (by decide +kernel)) entry_typeCall (wpAny_check_type_call_sub hC (Lr hC hB hA hN hrest hi hb fun h' e hm he=>hq h' e hm he))⟩
end
end L2
end
section
set_option Elab.async false
set_option linter.all false
set_option maxRecDepth 100000
set_option maxHeartbeats 4000000
namespace L2
open PySem PySem.Spec PyProof.Rows
open PySem.W (Looks)
def kU(h:Heap)(e:Addr)(cls:Value)(dx:Option Addr)(tb:Value):Prop:=∃oe vs,h.get? e=some oe/\oe.cls=cls/\oe.dict=dx/\oe.data=.fields vs/\vs[1]? =some tb
def Rest(h:Heap)(T:Addr):Prop:=∃oT ts,h.get? T=some oT/\oT.data=.fields ts/\ts[3]? =some .none
structure sP(fs ex:List Addr)(h h':Heap):Prop where
 keep:∀b o,h.get? b=some o->b∉ex->b∉fs->h'.get? b=some o
 slot:∀b o,h.get? b=some o->b∉ex->b∈fs->∃sl,h'.get? b=some {o with slots:=sl}
 more:h.objs.size<=h'.objs.size
section
variable {M:Model}{A:Around}{E:Value->Shared->Prop}{s:Shared}{base:Heap}{env:Env}{outer:List Env}{L e:Addr}{Q:Unit->Shared->Prop}
theorem Fl{oe:Obj}{vs:Array Value}{head:Value}{hadNext:Bool}(hfr:A.frames=some (env::outer))(hl:s.heap.FunFrames base (env::outer))(hf:env.frame=some L)
  (he:s.heap.get? e=some oe) (hd:oe.data=.fields vs) (hsz:1<vs.size)
  (hQ:∀h' T,sP (cv (env::outer)) [e] s.heap h'->s.heap.objs.size<=T->kU h' e oe.cls oe.dict (.ref T)->Rest h' T->T≠e->Q () {s with heap:=h'}):
  wpAny M A (do let a <-frameOf env;let pl <-entryPlaceOf L hadNext;let b <-EntryCells.newEntry head a .none (rawInt L) .none pl;setField (.ref e) 1 b) (fun _ s'=>wpAny M A (setFlight (.ref e) none) Q E s') E s:=by
 have enf:e∉cv (env::outer):=fun hm=>by
  obtain⟨_,o,ho,hn⟩:=hl.mem hm
  rw[he]at ho;cases ho;exact hn vs hd
 refine wpAny_bind (wpAny_frameOf_fun hfr hl hf fun h1 z1=>wpAny_bind (wpAny_entryPlaceOf fun pl hpl=>?_))
 unfold EntryCells.newEntry newFields;refine wpAny_bind (wpAny_newObj_type ?_ (hpl.sizeOk5 _ _ _ _ _))
 have e1:h1.get? e=some oe:=(z1.2.1 e enf).trans he
 generalize ho:({cls:=.type "traceback",dict:=none,data:=.fields ([head,.ref L,.none,rawInt L,.none]++(if pl.isEmpty then List.replicate 6 Value.none else pl)).toArray}:Obj)=ot
 have dt:ot.data=.fields ([head,.ref L,.none,rawInt L,.none]++(if pl.isEmpty then List.replicate 6 Value.none else pl)).toArray:=by rw[<-ho]
 have ft:ot.isFreed=false:=by rw[<-ho];rfl
 clear ho
 have e2:(h1.push ot).get? e=some oe:=Heap.get?_push_of_some _ e1
 have t2:(h1.push ot).get? h1.objs.size=some ot:=Heap.get?_push_size h1 ft
 have ne:h1.objs.size≠e:=Nat.ne_of_gt (Heap.lt_size e1)
 refine wpAny_setField e2 hd hsz ?_
 have d3:=Obj.data_mapFields hd (·.setIfInBounds 1 (Value.ref h1.objs.size))
 have e3:=Heap.get?_update_self (Obj.mapFields (·.setIfInBounds 1 (Value.ref h1.objs.size))) e2 (Obj.isFreed_of_fields d3)
 have t3:((h1.push ot).update e (Obj.mapFields (·.setIfInBounds 1 (Value.ref h1.objs.size)))).get? h1.objs.size=some ot:=(Heap.get?_update_other _ _ (Ne.symm ne)).trans t2
 unfold setFlight
 refine wpAny_bind (wpAny_field e3 d3 (x:=.ref h1.objs.size) (by simp[hsz]) ?_)
 rw[if_pos (show(Value.ref h1.objs.size !=Value.none)=true from by simp)]
 have z3:3<([head,.ref L,.none,rawInt L,.none]++(if pl.isEmpty then List.replicate 6 Value.none else pl)).toArray.size:=by
  simp only[List.size_toArray,List.length_append,List.length_cons,List.length_nil];lia
 refine wpAny_setField t3 dt z3 ?_
 have d4:=Obj.data_mapFields dt (·.setIfInBounds 3 ((none:Option Addr).elim Value.none fun f=>rawInt f))
 have t4:=Heap.get?_update_self (Obj.mapFields (·.setIfInBounds 3 ((none:Option Addr).elim Value.none fun f=>rawInt f))) t3 (Obj.isFreed_of_fields d4)
 have kp:∀b o,b≠e->h1.get? b=some o->(((h1.push ot).update e (Obj.mapFields (·.setIfInBounds 1 (Value.ref h1.objs.size)))).update h1.objs.size
   (Obj.mapFields (·.setIfInBounds 3 ((none:Option Addr).elim Value.none fun f=>rawInt f)))).get? b=some o:=fun b o nb q=>by
  rw[Heap.get?_update_other _ _ (Nat.ne_of_gt (Heap.lt_size q)),Heap.get?_update_other _ _ (Ne.symm nb)]
  exact Heap.get?_push_of_some _ q
 refine hQ _ h1.objs.size ⟨fun b o q nb nf=>kp b o (fun z=>nb (by rw[z];exact List.Mem.head _)) ((z1.2.1 b nf).trans q),fun b o q nb nf=>?_,?_⟩ (Nat.le_of_eq z1.1.symm) ?_ ?_ ne
 ·obtain⟨sl,hs⟩:=z1.2.2 b o q
  exact⟨sl,kp b _ (fun z=>nb (by rw[z];exact List.Mem.head _)) hs⟩
 ·rw[Heap.size_after_update,Heap.size_after_update,Heap.size_push,z1.1]
  exact Nat.le_succ _
 ·refine⟨_,_,(Heap.get?_update_other _ _ ne).trans e3,Obj.cls_mapFields _ _,?_,d3,by simp[hsz]⟩
  obtain⟨c0,dd0,dt0,sl0⟩:=oe
  cases dt0<;>rfl
 ·refine⟨_,_,t4,d4,?_⟩
  rw[Array.getElem?_setIfInBounds_self]
  rw[if_pos z3]
  rfl
theorem N4{cls:Value}{dx:Option Addr}(hfr:A.frames=some (env::outer))(hl:s.heap.FunFrames base (env::outer))(hf:env.frame=some L)(he:kU s.heap e cls dx .none)
  (hQ:∀h' T,sP (cv (env::outer)) [e] s.heap h'->s.heap.objs.size<=T->kU h' e cls dx (.ref T)->Rest h' T->T≠e->Q () {s with heap:=h'}):
  wpAny M A (noteFrame (.ref e) env) (fun _ s2=>wpAny M A (setFlight (.ref e) none) Q E s2) E s:=by
 obtain⟨oe,vs,h0,rfl,rfl,hd,h1⟩:=he
 unfold noteFrame
 simp only[hf]
 refine wpAny_bind (wpAny_field h0 hd h1 ?_)
 rw[if_neg (by decide)]
 exact Fl hfr hl hf h0 hd (Array.getElem?_eq_some_iff.mp h1).1 hQ
theorem EE{cls:Value}{dx:Option Addr}{T0:Addr}(hfr:A.frames=some (env::outer))(hl:s.heap.FunFrames base (env::outer))(hf:env.frame=some L)(he:kU s.heap e cls dx (.ref T0))(hT:Rest s.heap T0)(hne:T0≠e)
  (hQ:∀h' T,sP (cv (env::outer)) [e,T0] s.heap h'->s.heap.objs.size<=T->kU h' e cls dx (.ref T)->Rest h' T->T≠e->(∃o,h'.get? T0=some o)->Q () {s with heap:=h'}):
  wpAny M A (noteFrame (.ref e) env) (fun _ s2=>wpAny M A (setFlight (.ref e) none) Q E s2) E s:=by
 obtain⟨oe,vs,h0,rfl,rfl,hd,h1⟩:=he
 obtain⟨oT,ts,t0,dT,t3⟩:=hT
 unfold noteFrame
 simp only[hf]
 refine wpAny_bind (wpAny_field h0 hd h1 ?_)
 rw[if_pos (show(Value.ref T0 !=Value.none)=true from by simp)]
 refine wpAny_bind (wpAny_field t0 dT t3 ?_)
 rw[if_neg (show ¬((Value.none==rawInt L)=true)from by simp[rawInt])]
 refine wpAny_bind (wpAny_setField t0 dT (Array.getElem?_eq_some_iff.mp t3).1 ?_)
 have oth:∀b,b≠T0->(s.heap.update T0 (Obj.mapFields (·.setIfInBounds 3 Value.none))).get? b=s.heap.get? b:=fun b hb=>Heap.get?_update_other _ _ (Ne.symm hb)
 have nrec:∀b o,s.heap.get? b=some o->(∀us,o.data≠ .fields us)->b≠T0:=fun b o q nf z=>by
  rw[z,t0]at q;cases q;exact nf ts dT
 refine Fl (s:={s with heap:=s.heap.update T0 (Obj.mapFields (·.setIfInBounds 3 Value.none))}) hfr (hl.of_keeps fun b o q nf=>⟨o,(oth b (nrec b o q nf)).trans q,rfl⟩) hf ((oth e (Ne.symm hne)).trans h0) hd
  (Array.getElem?_eq_some_iff.mp h1).1 fun h' T F a b c d=>hQ h' T ⟨fun x o q nx nf=>?_,fun x o q nx nf=>?_,?_⟩ ?_ b c d ?_
 ·have n2:x≠T0:=fun z=>nx (by rw[z];exact List.Mem.tail _ (List.Mem.head _))
  exact F.keep x o ((oth x n2).trans q) (fun z=>nx (by rw[List.mem_singleton.mp z];exact List.Mem.head _)) nf
 ·have n2:x≠T0:=fun z=>nx (by rw[z];exact List.Mem.tail _ (List.Mem.head _))
  exact F.slot x o ((oth x n2).trans q) (fun z=>nx (by rw[List.mem_singleton.mp z];exact List.Mem.head _)) nf
 ·have:=F.more
  rw[Heap.size_after_update]at this
  exact this
 ·have:=a
  rw[Heap.size_after_update]at this
  exact this
 ·have q:=Heap.get?_update_self (Obj.mapFields (·.setIfInBounds 3 Value.none)) t0 (Obj.isFreed_of_fields (Obj.data_mapFields dT _))
  refine⟨_,F.keep T0 _ q (fun z=>hne (List.mem_singleton.mp z)) fun z=>?_⟩
  obtain⟨_,o,ho,hn⟩:=hl.mem z
  rw[t0]at ho;cases ho;exact hn ts dT
end
end L2
end
section
set_option Elab.async false
set_option linter.all false
set_option maxRecDepth 100000
set_option maxHeartbeats 4000000
namespace L2
open PySem PySem.Spec PyProof.Rows
open PySem.W (Looks)
def bh(P:Program)(w:World):eg:=fun outer H s E e s'=>∃(ea:Addr)(cls:Value)(dx T:Addr)(H':Hp),e=.ref ea/\s'.os=s.os/\AllBare s'.gens/\Un (cv outer) [] H H' s.heap s'.heap/\bC P w H' s'.heap/\
 kU s'.heap ea cls (some dx) (.ref T)/\Rest s'.heap T/\T≠ea/\s.heap.objs.size<=ea/\s.heap.objs.size<=T/\H' ea=none/\H' T=none/\E cls (some dx) H'
section
variable {X:Cx}{pins:List (Addr×Obj)}{σ:St}{H:Hp}{s:Shared}
theorem DX{env:Env}{outer:List Env}{L:Addr}(hf:env.frame=some L):cv (env::outer)=L::cv outer:=by
 unfold cv;rw[List.filterMap_cons,hf]
theorem Inv.Gf{ex:List Addr}{h':Heap}{env:Env}{outer:List Env}(I:Inv X pins σ H s)(hs:X.stack=env::outer)(ho:X.outer=outer)(hf:env.frame=some X.env.locals)(hx:X.ex=[])(F:sP (cv (env::outer)) ex s.heap h')
  (hz:∀b∈ex,X.b8.heap.objs.size<=b/\H b=none):Un (cv outer) [] X.m8 H X.b8.heap h'/\bC X.prog X.w H h':=by
 have B:=I.base
 rw[hx,show X.fs=cv outer by unfold Cx.fs;rw[ho]]at B
 have nex:∀b o,X.b8.heap.get? b=some o->b∉ex:=fun b o q z=>Nat.lt_irrefl _ (Nat.lt_of_lt_of_le (Heap.lt_size q) (hz b z).1)
 have nl:∀b o,X.b8.heap.get? b=some o->b≠X.env.locals:=fun b o q z=>by
  have:=I.ok.above
  rw[<-z]at this
  exact Nat.lt_irrefl _ (Nat.lt_of_lt_of_le (Heap.lt_size q) this)
 refine⟨⟨fun b o q n nf _=>F.keep b o (B.keep b o q n nf (by simp)) (nex b o q) ?_,fun b o q n hm _=>?_,fun b o q n _=>B.free b o q n (by simp),fun b o q _=>?_,B.gW,B.gq,B.gJ⟩,fun a o q=>?_⟩
 ·rw[DX hf]
  intro z
  rcases List.mem_cons.mp z with z|z
  ·exact nl b o q z
  ·exact nf z
 ·obtain⟨sl,e1⟩:=B.slot b o q n hm (by simp)
  obtain⟨sl2,e2⟩:=F.slot b _ e1 (nex b o q) (by rw[DX hf];exact List.mem_cons_of_mem _ hm)
  exact⟨sl2,e2⟩
 ·obtain⟨o',e1⟩:=B.there b o q (by simp)
  by_cases hm:b∈cv (env::outer)
  ·obtain⟨sl2,e2⟩:=F.slot b _ e1 (nex b o q) hm
   exact⟨_,e2⟩
  ·exact⟨_,F.keep b _ e1 (nex b o q) hm⟩
 ·have nf:∀b u,H b=some u->b∉cv (env::outer):=fun b u r z=>by
   have:=I.vJ b (by rw[hs];exact z)
   rw[r]at this;cases this
  have ne:∀b u,H b=some u->b∉ex:=fun b u r z=>by
   have:=(hz b z).2
   rw[r]at this;cases this
  refine(I.aA a o q).jh (fun b u hb r=>?_) (fun b r=>r) (fun b xs r=>r)
  rcases hb with rfl|hb
  ·exact F.keep b u r (ne _ _ q) (nf _ _ q)
  ·exact F.keep b u r (ne _ _ hb) (nf _ _ hb)
def yg(X:Cx)(E:XK):Prop:=∀(pins:List (Addr×Obj))(σ:St)(H:Hp)(s:Shared)(ea:Addr)(cls:Value)(dx:Addr),Inv X pins σ H s->kU s.heap ea cls (some dx) .none->X.b8.heap.objs.size<=ea->H ea=none->E cls (some dx) H->X.xe (.ref ea) s
end
section
variable {P:Program}{w:World}{K:PySem.W.Frag}{mg:Str->Option Value}{base:Heap}{N:List Str}{qual:Str}{scope:Scope}{f:Addr}{cd:Value}{A:Around}{outer:List Env}{s:Shared}{H:Hp}{E:XK}
theorem fj:yg (fN (bh P w) P w K mg base N qual scope f cd A outer s H E) E:=by
 intro pins σ H1 s1 ea cls dx I he hz hn hE
 have hst:=I.stack
 have hfr:=I.ok.frames
 show wpAny _ _ (leaving _ (.ref ea)) _ _ _
 unfold leaving
 refine wpAny_bind (N4 hfr hst rfl he fun h' T F a b c d=>?_)
 obtain⟨u,ok⟩:=I.Gf (ex:=[ea]) rfl rfl rfl rfl F (fun b hb=>by rw[List.mem_singleton.mp hb];exact⟨hz,hn⟩)
 exact⟨ea,cls,dx,T,H1,rfl,I.os,I.bare,u,ok,b,c,d,hz,Nat.le_trans I.sz a,hn,I.aA.fresh a,hE⟩
theorem au:Passes (bh P w) (fN (bh P w) P w K mg base N qual scope f cd A outer s H E) E:=by
 intro pins σ H1 s1 e s2 I hx
 obtain⟨ea,cls,dx,T,H',rfl,os,bare,un,ok,er,re,ne,z1,z2,n1,n2,hE⟩:=hx
 obtain⟨hh,g,d,t,os'⟩:=s2
 obtain rfl:os'=s1.os:=os
 have I2:=I.call (h':=hh) (g':=g) (d':=d) (t':=t) (ch:=[]) un ok bare (fun b z=>absurd z (by simp))
 have hst:=I2.stack
 have hfr:=I2.ok.frames
 show wpAny _ _ (leaving _ (.ref ea)) _ _ _
 unfold leaving
 refine wpAny_bind (EE hfr hst rfl er re ne fun h' T' F a b c d _=>?_)
 have s0:=I.sz
 obtain⟨u,ok2⟩:=I2.Gf (ex:=[ea,T]) rfl rfl rfl rfl F (fun b hb=>by
  rcases List.mem_cons.mp hb with rfl|hb
  ·exact⟨Nat.le_trans s0 z1,n1⟩
  ·rw[List.mem_singleton.mp hb];exact⟨Nat.le_trans s0 z2,n2⟩)
 exact⟨ea,cls,dx,T',H',rfl,I2.os,I2.bare,u,ok2,b,c,d,Nat.le_trans s0 z1,Nat.le_trans I2.sz a,n1,I2.aA.fresh a,hE⟩
theorem hG:PassesOwn (model P w) (fN (bh P w) P w K mg base N qual scope f cd A outer s H E).A (fN (bh P w) P w K mg base N qual scope f cd A outer s H E).env (fN (bh P w) P w K mg base N qual scope f cd A outer s H E).xe:=PassesOwn.leaving
end
theorem aE.bx{P:Program}{w:World}{K:PySem.W.Frag}{mg:Str->Option Value}{base:Heap}{x qual:Str}{st:Stmt}{f:Addr}{fd:FuncData}{N ps:List Str}{k:Nat}{sp:Sp}(F:aE K x qual st f fd)(S:aI N ps (aB st))(len:∀vs H Q E,sp vs H Q E->vs.length=ps.length)
  (hbody:∀(cdv:Value)(A:Around)(outer:List Env)(s:Shared)(H:Hp)(vs:List V)(Q:VK)(E:XK),bA k (A.deeper (envOfC qual (aB st) s.heap.objs.size f cdv))->sp vs H Q E->
   ∃t,dS (fN (bh P w) P w K mg base N qual (aB st) f cdv A outer s H E) (gb st) t/\t {nx:=fun _ H'=>Q .ax H',rt:=Q} (start N vs) H):ay P w K mg base (bh P w) (k+1) f fd ps sp:=by
 obtain⟨oc,od,kV,doc,pm,an,cdv,ct,osl,rfl,lk,hcd⟩:=F.ex
 exact Bk lk hcd S len fun A outer s H vs Q E hr hsp=>hbody cdv A outer s H vs Q E hr hsp
end L2
end
section
set_option Elab.async false
set_option linter.all false
set_option maxRecDepth 100000
set_option maxHeartbeats 4000000
namespace L2
open PySem PySem.Spec PyProof.Rows
open PySem.W (Looks)
def ie:List Value->Bool
 |[.type a,.type b,.type c]=>a=="Exception"&&b=="BaseException"&&c=="object"
 | .ref _::r=>ie r
 |_=>false
theorem CT:∀{l:List Value},ie l=true->l=[.type "Exception",.type "BaseException",.type "object"]\/∃c r,l=.ref c::r/\ie r=true
 |[.type a,.type b,.type c],h=>by
  simp only[ie,Bool.and_eq_true,beq_iff_eq]at h
  obtain⟨⟨rfl,rfl⟩,rfl⟩:=h
  exact .inl rfl
 | .ref c::r,h=>.inr ⟨c,r,rfl,by cases r<;>first|exact h|cases h⟩
theorem jM{T:String}{b:Bool}(hb:([.type "Exception",.type "BaseException",.type "object"]:List Value).contains (.type T)=b):∀(l:List Value),ie l=true->l.contains (.type T)=b
 |[],h=>by cases h
 |v::r,h=>by
  rcases CT h with e|⟨c,r',e,h'⟩
  ·rw[e];exact hb
  ·cases e
   rw[List.contains_cons,jM hb r h']
   rfl
theorem Fv(self:Value):∀(l:List Value),ie l=true->refuseLoop self "__setattr__" l=pure ()
 |[],h=>by cases h
 |v::r,h=>by
  rcases CT h with e|⟨c,r',e,h'⟩
  ·rw[e];exact PySem.F.store_Exception.passes self
  ·cases e
   rw[refuseLoop_ref];exact Fv self r h'
def eD(K:PySem.W.Frag)(C:Addr):Bool:=match K.lookup C with
 |some ⟨.type "type",_,.cls cd,sl⟩=>(match cd.mro,sl.toList with
  | .ref C'::bm,[_,_,_,_,some (.builtin n),_]=>C'==C&&n=="Exception.__new__"&& !cd.hasDel&&cd.hasDict&&ie bm
  |_,_=>false)
 |_=>false
theorem lE{K:PySem.W.Frag}{C:Addr}(e:eD K C=true):∃nm q N bs bm sn sub ab col dd k0 k1 k2 k3 k5,K.lookup C=some (excClassObj nm q C N bs bm true sn sub ab col dd k0 k1 k2 k3 k5 "Exception.__new__")/\ie bm=true:=by
 unfold eD at e
 split at e
 ·rename_i dd cd sl ho
  split at e
  ·rename_i C' bm k0 k1 k2 k3 n k5 hm hs
   simp only[Bool.and_eq_true,beq_iff_eq,Bool.not_eq_true']at e
   obtain⟨⟨⟨⟨rfl,rfl⟩,h1⟩,h2⟩,h3⟩:=e
   obtain⟨nm,bs,mro,ns,qn,hd,sn,sub,ab,col,del⟩:=cd
   dsimp only at hm h1 h2
   subst hm h1 h2
   obtain⟨l⟩:=sl
   dsimp only at hs
   subst hs
   exact⟨nm,qn,ns,bs,bm,sn,sub,ab,col,dd,k0,k1,k2,k3,k5,ho,h3⟩
  ·cases e
 ·cases e
structure gH(K:PySem.W.Frag)(C fI:Addr):Prop where
 is:eD K C=true
 init:PySem.W.findIn K (.ref C) "__init__"=some (some (.ref fI))
 fn:PySem.W.isFn K (.ref fI)=true
 kp:PySem.W.keepIn K (.ref C)=true
 sa:PySem.W.findIn K (.ref C) "__setattr__"=some (some (.builtin "object.__setattr__"))
def cI(lo:Nat)(a C:Addr)(dx:Option Addr):HO:=.ext fun h=>lo<=a/\∃t,h.get? a=some {cls:=.ref C,dict:=dx,data:=.fields #[.ref t,.none,.none,.none,.bool false,.none]}
def dC(a:Addr)(fs:List (Str×V)):HO:=.ext fun h=>∃mA,h.Ns1 a mA/\(∀f,dk (fs.lookup f) (mA f))/\PySem.Within mA (fs.map (·.1))
section
variable {P:Program}{w:World}{H:Hp}{h:Heap}{a C:Addr}{dx:Option Addr}{fs:List (Str×V)}
theorem G5{lo:Nat}{t:Addr}(z:lo<=a)(e:h.get? a=some {cls:=.ref C,dict:=dx,data:=.fields #[.ref t,.none,.none,.none,.bool false,.none]}):cu P w H h a (cI lo a C dx):=
 ⟨⟨z,t,e⟩,⟨_,e⟩,fun _ _⟨z,t,q⟩k=>⟨z,t,k _ q⟩⟩
theorem yX{mA:Str->Option Value}(e:h.Ns1 a mA)(r:∀f,dk (fs.lookup f) (mA f))(z:PySem.Within mA (fs.map (·.1))):cu P w H h a (dC a fs):=
 ⟨⟨mA,e,r,z⟩,(by obtain⟨o,_,_,q,_⟩:=e;exact⟨o,q⟩),fun _ _⟨m,q,r⟩k=>⟨m,q.at k,r⟩⟩
theorem yy{lo:Nat}(ok:bC P w H h)(e:H a=some (cI lo a C dx)):lo<=a/\∃t,h.get? a=some {cls:=.ref C,dict:=dx,data:=.fields #[.ref t,.none,.none,.none,.bool false,.none]}:=(ok a _ e).1
theorem Fx(ok:bC P w H h)(e:H a=some (dC a fs)):∃mA,h.Ns1 a mA/\(∀f,dk (fs.lookup f) (mA f))/\PySem.Within mA (fs.map (·.1)):=(ok a _ e).1
end
section
variable {prog:Program}{w:World}{A:Around}{E:Value->Shared->Prop}{s:Shared}{K:PySem.W.Frag}{x C:Addr}{f:Str}{v:Value}
theorem Gd{ox:Obj}{od:Option Obj}{R:Result->Shared->Prop}{tk:Tok}(X:K.In s.heap)(J:PySem.W.InstAt s.heap x ox C od)(hc:eD K C=true)(hn:PySem.W.findIn K (.ref C) f=some none)
  (h:wpAny (model prog w) A.in1 (Builtin.ObjectAttr.storeInOwnDict (.ref x) (.ref C) (.str f tk) f v false)
   (fun fin s'=>match fin with| .done z=>R (.ok z) s'| .again c'=>c'.quiet=true/\codeAny (model prog w) A c' R s') (fun e s'=>R (.error e) s') s):
  codeAny (model prog w) A (.call (.builtin "object.__setattr__") ⟨[.ref x,.str f tk,v],[]⟩) R s:=by
 obtain⟨nm,q,N,bs,bm,sn,sub,ab,col,dd,k0,k1,k2,k3,k5,ho,ht⟩:=lE hc
 have SF:=PySem.F.store_object
 have hcl:PySem.W.clsIn K C=some {name:=nm,bases:=bs,mro:=.ref C::bm,ns:=N,qualname:=q,hasDict:=true,slotNames:=sn,subclasses:=sub,abstract:=ab,collection:=col,hasDel:=false}:=by
  unfold PySem.W.clsIn;rw[ho]
 have hob:(Value.ref C::bm).contains (.type "object")=true:=by rw[List.contains_cons,jM (b:=true) (by decide +kernel) bm ht];rfl
 have sb:Looks (model prog w) s.heap (isInstance (.ref x) (.type "object")) true:=J.type.andThen (PySem.W.looks_mroIn X (by unfold PySem.W.mroIn;rw[hcl,Option.bind_some,if_neg (by simp),hob]))
 refine codeAny_call_builtin SF.slot.plain SF.entry (@PySem.W.check_slot (model prog w) _ _ s "object.__setattr__" "object" "__setattr__" (.ref x) [.str f tk,v] [] _ SF.kind SF.split sb (SF.args (.ref x) (.str f tk) v) ?_)
 have hm:Looks (model prog w) s.heap (mroOf (.ref C)) (.ref C::bm):=(PySem.W.looks_clsIn X hcl).andThen .now
 rw[PySem.W.osa_eq,refuse_eq];refine wpAny_bind (wpAny_bind (J.type.here (wpAny_bind (hm.here ?_))))
 rw[refuseLoop_ref,Fv _ bm ht];refine wpAny_pure (wpAny_bind (J.type.here (wpAny_bind ((PySem.W.looks_findIn X hn).here ?_))))
 refine wpAny_bind (Looks.here (r:=none) .now ?_)
 exact h
end
section
variable {X:Cx}{pins:List (Addr×Obj)}{σ:St}{H:Hp}{s:Shared}{A:Around}{E:Value->Shared->Prop}{a C fI:Addr}{f:Str}{y:V}{u:Value}{Q:Unit->Shared->Prop}
theorem zC{mA:Str->Option Value}(h:∀n,mA n=none):PySem.Within mA []:=fun n hn=>absurd (h n) hn
theorem Mz{lo:Nat}(I:Inv X pins σ H s)(e:H a=some (cI lo a C none))(c:gH X.K C fI)(n:bu X.K C f)(ry:RelV y u)
  (h:∀(s':Shared)(dx:Addr),H dx=none->dx≠a->Inv X pins σ (upd (upd H dx (dC dx [(f,y)])) a (cI lo a C (some dx))) s'->Q () s'):wpAny (model X.prog X.w) A (setAttr (.ref a) f u) Q E s:=by
 obtain⟨zl,t,hx⟩:=yy I.aA e
 have J:PySem.W.InstAt s.heap a _ C none:=⟨hx,rfl,rfl,trivial⟩
 refine PySem.W.set_plain I.bp J c.sa (Gd (s:={s with toks:=s.toks+1}) I.bp J c.is n ?_)
 have xs:a≠s.heap.objs.size:=Nat.ne_of_lt (Heap.lt_size hx)
 have hn0:H s.heap.objs.size=none:=I.aA.fresh (Nat.le_refl _)
 have hx1:(s.heap.push PySem.W.emptyDict).get? a=some {cls:=.ref C,dict:=none,data:=.fields #[.ref t,.none,.none,.none,.bool false,.none]}:=Heap.get?_push_of_some _ hx
 refine wpAny_bind (wpAny_pure (wpAny_bind ?_))
 obtain⟨nm,q,N,bs,bm,sn,sub,ab,col,dd,k0,k1,k2,k3,k5,ho,ht⟩:=lE c.is
 have hcl:PySem.W.clsIn X.K C=some {name:=nm,bases:=bs,mro:=.ref C::bm,ns:=N,qualname:=q,hasDict:=true,slotNames:=sn,subclasses:=sub,abstract:=ab,collection:=col,hasDel:=false}:=by
  unfold PySem.W.clsIn;rw[ho]
 refine wpAny_bind (wpAny_loadPart (s:={s with toks:=s.toks+1}) hx (wpAny_bind (Looks.here (s:={s with toks:=s.toks+1}) (PySem.W.looks_clsIn I.bp hcl) ?_)))
 refine wpAny_bind (wpAny_alloc (wpAny_bind (wpAny_update hx1 ?_)))
 have hgd:((s.heap.push PySem.W.emptyDict).update a fun o=>{o with dict:=some s.heap.objs.size}).get? s.heap.objs.size=some PySem.W.emptyDict:=(Heap.get?_update_ne _ _ _ _ xs.symm).trans (Heap.get?_push_at rfl rfl)
 have hnd:((s.heap.push PySem.W.emptyDict).update a fun o=>{o with dict:=some s.heap.objs.size}).Ns s.heap.objs.size (fun _=>none):=⟨_,#[],_,hgd,rfl,fun e he=>absurd he (by simp),fun _=>rfl⟩
 have hxa:((s.heap.push PySem.W.emptyDict).update a fun o=>{o with dict:=some s.heap.objs.size}).get? a=some {cls:=.ref C,dict:=some s.heap.objs.size,data:=.fields #[.ref t,.none,.none,.none,.bool false,.none]}:=
  Heap.get?_update_self _ hx1 rfl
 refine wpAny_pure (a:=some s.heap.objs.size) ?_
 show wpAny _ _ (Builtin.ObjectAttr.storeInDict s.heap.objs.size (.str f s.toks) f u) _ _ _
 unfold Builtin.ObjectAttr.storeInDict Builtin.ObjectAttr.newKeyGuard
 refine wpAny_bind (wpAny_pure (wpAny_bind (wpAny_nsSet1 (Heap.Ns1.of_empty hnd) fun h' hn' hs=>?_)))
 obtain⟨oD,esD,epD,hoD,hdD,hcD⟩:=hn'.count (PySem.Within.cons f u (zC fun _=>rfl))
 refine wpAny_bind (wpAny_lookBehind hoD (by rw[hdD];exact pastItsLine_dict (Nat.le_trans hcD (by rw[List.length_cons,List.length_nil,sizeLine_eq];lia))) ?_)
 have I1:=I.laid (a:=s.heap.objs.size) (o:=dC s.heap.objs.size []) (h':=s.heap.push PySem.W.emptyDict) (t':=s.toks) (fun b u q=>Heap.get?_push_of_some _ q) (Nat.le_refl _)
  (yX (mA:=fun _=>none) (Heap.Ns1.of_empty ⟨_,#[],_,Heap.get?_push_size s.heap rfl,rfl,fun e he=>absurd he (by simp),fun _=>rfl⟩) (fun _=>trivial) (zC fun _=>rfl))
 have m1:upd H s.heap.objs.size (dC s.heap.objs.size []) a=some (cI lo a C none):=by rw[ak xs];exact e
 have I2:=I1.write (x:=a) (e:=a) (o:=cI lo a C (some s.heap.objs.size)) (h':=(s.heap.push PySem.W.emptyDict).update a fun o=>{o with dict:=some s.heap.objs.size}) (t':=s.toks)
  (by rw[m1];exact True.intro) (.inl rfl) (fun b u nb q=>(Heap.get?_update_other _ _ (Ne.symm nb)).trans q) ⟨_,hxa⟩ (G5 zl hxa)
 have m2:upd (upd H s.heap.objs.size (dC s.heap.objs.size [])) a (cI lo a C (some s.heap.objs.size)) s.heap.objs.size=some (dC s.heap.objs.size []):=by rw[ak (Ne.symm xs),aw]
 have I3:=I2.write (x:=s.heap.objs.size) (e:=s.heap.objs.size) (o:=dC s.heap.objs.size [(f,y)]) (h':=h') (t':=s.toks+1+1)
  (by rw[m2];exact True.intro) (.inl rfl) (fun b u nb q=>(hs.2 b nb).trans q) (by obtain⟨o,_,_,q,_⟩:=hn';exact⟨o,q⟩)
  (yX hn' (fun g=>by
   show dk (List.lookup g [(f,y)]) (if g=f then some u else none)
   by_cases q:g=f
   ·rw[if_pos q,q]
    simp only[List.lookup,beq_self_eq_true]
    exact ry
   ·rw[if_neg q]
    have:(g==f)=false:=beq_eq_false_iff_ne.mpr q
    simp only[List.lookup,this]
    trivial) (PySem.Within.cons f u (zC fun _=>rfl)))
 have e3:upd (upd (upd H s.heap.objs.size (dC s.heap.objs.size [])) a (cI lo a C (some s.heap.objs.size))) s.heap.objs.size (dC s.heap.objs.size [(f,y)])=
   upd (upd H s.heap.objs.size (dC s.heap.objs.size [(f,y)])) a (cI lo a C (some s.heap.objs.size)):=by
  funext b
  by_cases q1:b=s.heap.objs.size
  ·rw[q1,aw,ak (Ne.symm xs),aw]
  ·rw[ak q1]
   by_cases q2:b=a
   ·rw[q2,aw,aw]
   ·rw[ak q2,ak q2,ak q1,ak q1]
 rw[e3]at I3
 exact wpAny_pure (h _ s.heap.objs.size hn0 (Ne.symm xs) I3)
theorem Mq{lo:Nat}{dx:Addr}{fs:List (Str×V)}(I:Inv X pins σ H s)(e:H a=some (cI lo a C (some dx)))(ed:H dx=some (dC dx fs))(hne:dx≠a)(c:gH X.K C fI)(n:bu X.K C f)(hl:fs.length<1000)(ry:RelV y u)
  (h:∀(s':Shared),Inv X pins σ (upd H dx (dC dx (cy f y fs))) s'->Q () s'):wpAny (model X.prog X.w) A (setAttr (.ref a) f u) Q E s:=by
 obtain⟨zl,t,hx⟩:=yy I.aA e
 obtain⟨mA,hn,r,wi⟩:=Fx I.aA ed
 obtain⟨od,es,ep,hod,_⟩:=id hn
 have J:PySem.W.InstAt s.heap a _ C (some od):=⟨hx,rfl,rfl,hod⟩
 refine PySem.W.set_plain I.bp J c.sa (Gd (s:={s with toks:=s.toks+1}) I.bp J c.is n ?_)
 refine wpAny_bind (wpAny_pure (wpAny_bind ?_))
 obtain⟨nm,q,N,bs,bm,sn,sub,ab,col,dd,k0,k1,k2,k3,k5,ho,ht⟩:=lE c.is
 have hcl:PySem.W.clsIn X.K C=some {name:=nm,bases:=bs,mro:=.ref C::bm,ns:=N,qualname:=q,hasDict:=true,slotNames:=sn,subclasses:=sub,abstract:=ab,collection:=col,hasDel:=false}:=by
  unfold PySem.W.clsIn;rw[ho]
 refine wpAny_bind (wpAny_loadPart (s:={s with toks:=s.toks+1}) hx (wpAny_bind (Looks.here (s:={s with toks:=s.toks+1}) (PySem.W.looks_clsIn I.bp hcl) ?_)))
 refine wpAny_pure (a:=some dx) ?_
 show wpAny _ _ (Builtin.ObjectAttr.storeInDict dx (.str f s.toks) f u) _ _ _
 unfold Builtin.ObjectAttr.storeInDict Builtin.ObjectAttr.newKeyGuard
 refine wpAny_bind (wpAny_pure (wpAny_bind (wpAny_nsSet1 (s:={s with toks:=s.toks+1}) hn fun h' hn' hs=>?_)))
 obtain⟨oD,esD,epD,hoD,hdD,hcD⟩:=hn'.count (PySem.Within.cons f u wi)
 refine wpAny_bind (wpAny_lookBehind hoD (by rw[hdD];exact pastItsLine_dict (Nat.le_trans hcD (by rw[List.length_cons,List.length_map,sizeLine_eq];lia))) ?_)
 refine wpAny_pure (h _ ?_)
 refine I.write (x:=dx) (e:=dx) (by rw[ed];exact True.intro) (.inl rfl) (fun b u nb q=>(hs.2 b nb).trans q) (by obtain⟨o,_,_,q,_⟩:=hn';exact⟨o,q⟩) (yX hn' (fun g=>?_) fun g hg=>?_)
 ·show dk ((cy f y fs).lookup g) (if g=f then some u else mA g)
  rw[pM]
  by_cases q:g=f
  ·rw[if_pos q,if_pos q];exact ry
  ·rw[if_neg q,if_neg q];exact r g
 ·by_cases q:g=f
  ·rw[q];exact(qD f y fs).1
  ·refine(qD f y fs).2 g (wi g fun z=>hg ?_)
   show(if g=f then some u else mA g)=none
   rw[if_neg q];exact z
end
end L2
end
section
set_option Elab.async false
set_option linter.all false
set_option maxRecDepth 100000
set_option maxHeartbeats 4000000
namespace L2
open PySem PySem.Spec PyProof.Rows
open PySem.W (Looks)
section
variable {X:Cx}{o value:Expr}{f:Str}{pos pos':Pos}{ta tv:TE}
def MW(K:PySem.W.Frag)(ta tv:TE)(f:Str):TS:=fun D σ H=>tv σ H fun y H1=>ta σ H1 fun x H2=>∃lo a C fI,x=.ref a/\H2 a=some (cI lo a C none)/\gH K C fI/\bu K C f/\
 ∀dx,H2 dx=none->dx≠a->D.nx σ (upd (upd H2 dx (dC dx [(f,y)])) a (cI lo a C (some dx)))
theorem MI(ha:PE X o ta)(hv:PE X value tv)(hs:swapsWith value (some (.Attribute o f pos')) pos.line X.env=pure false):PS X (.Assign [.Attribute o f pos'] value pos) (MW X.K ta tv f):=by
 intro pins s σ H D I h
 refine plainObj_wpAny_Assign_Attribute (aJ (hv pins s σ H _ I h) fun u s1⟨y,H1,I1,ry,q⟩=>aJ (ha pins s1 σ H1 _ I1 q) fun ov s2 hh1=>?_) hs
 obtain⟨x,H2,I2,rx,lo,a,C,fI,ex,ea,c,n,q2⟩:=hh1
 subst ex
 obtain rfl:ov=Value.ref a:=rx
 exact Mz I2 ea c n ry fun s3 dx hn ne I3=>⟨σ,_,I3,q2 dx hn ne⟩
def Hx(K:PySem.W.Frag)(ta tv:TE)(f:Str):TS:=fun D σ H=>tv σ H fun y H1=>ta σ H1 fun x H2=>∃lo a C fI dx fs,x=.ref a/\H2 a=some (cI lo a C (some dx))/\H2 dx=some (dC dx fs)/\dx≠a/\gH K C fI/\bu K C f/\
 fs.length<1000/\D.nx σ (upd H2 dx (dC dx (cy f y fs)))
theorem HN(ha:PE X o ta)(hv:PE X value tv)(hs:swapsWith value (some (.Attribute o f pos')) pos.line X.env=pure false):PS X (.Assign [.Attribute o f pos'] value pos) (Hx X.K ta tv f):=by
 intro pins s σ H D I h
 refine plainObj_wpAny_Assign_Attribute (aJ (hv pins s σ H _ I h) fun u s1⟨y,H1,I1,ry,q⟩=>aJ (ha pins s1 σ H1 _ I1 q) fun ov s2 hh2=>?_) hs
 obtain⟨x,H2,I2,rx,lo,a,C,fI,dx,fs,ex,ea,ed,ne,c,n,l,q2⟩:=hh2
 subst ex
 obtain rfl:ov=Value.ref a:=rx
 exact Mq I2 ea ed ne c n l ry fun s3 I3=>⟨σ,_,I3,q2⟩
end
structure xI(K:PySem.W.Frag)(C:Addr)(m:Str)(f:Addr):Prop where
 rd:PySem.W.readsIn K C (.type "type")=true
 sp:PySem.W.specialIn K (.ref C) "__getattribute__"=some (some (.builtin "type.__getattribute__"))
 at_:PySem.W.findCls K (.ref C) (.type "type") m=some (.val (.ref f))
 kp:PySem.W.keepIn K (.ref f)=true
section
variable {X:Cx}{CX:eg}{k:Nat}{f C:Addr}{fd:FuncData}{ps:List Str}{sp:Sp}{dvs:List V}{ds:List Value}{E:XK}{x m:Str}{p pos apos:Pos}{e:Expr}{es:List Expr}{t:TA}
theorem lP{pl:Sem Bool}(hg:Gl X x)(hm:X.mg x=some (.ref C))(c:xI X.K C m f)(F:ay X.prog X.w X.K X.mg X.base CX k f fd ps sp)(hr:bA k X.A)(hb:Binds X.K fd ps ds)(hd:aT dvs ds)(hx:Passes CX X E)(ha:PA X (e::es) t)
  (hdb:(x==("__debug__":Str))=false:=by decide) (hst:starEach (e::es) X.env=(false,eval e X.env)::starEach es X.env:=by rfl) (hpl:(backTo pos (starEach es X.env)).any (·.1)=false:=by rfl)
  (ht:eval (.Call (.Attribute (.Name x p) m apos) (e::es) [] pos) X.env=(do
   let ov <-eval (.Name x p) X.env
   standAt apos.atName
   let(f,first) <-holding [ov] (getMethod ov m pl)
   callWith pos f first (backTo pos (starEach (e::es) X.env)) (backToKw pos (keywordEach [] X.env))):=by rfl):
  PE X (.Call (.Attribute (.Name x p) m apos) (e::es) [] pos) (o9 sp dvs E t):=by
 intro pins s σ H Q I h
 refine PySem.W.methodCall_KW (pl:=pl) (jg I hg hm ?_ hdb) ht
 refine PySem.W.method_cls I.bp c.sp (PySem.W.cls_value I.bp c.rd c.at_ rfl ?_)
 have I1:=I.tok (s.toks+1)
 refine PySem.W.callWith_K (first:=[]) (h₀:=X.base) I.ok.mod.iW c.kp (aJ (ha pos pins _ σ H _ I1 h) fun us s1⟨vs,H1,I2,r,q⟩=>⟨I2.bp,?_⟩) hst hpl
 exact vx F hr hb hd hx I2 r q
end
def Ko(lo:Nat)(C:Addr)(sp:Sp)(t:TA):TE:=fun σ H Q=>t σ H fun vs H1=>vs.length<=sizeLine/\∀x,H1 x=none->sp (.ref x::vs) (upd H1 x (cI lo x C none)) (fun v H2=>v=.ax/\Q (.ref x) H2) E0
section
variable {X:Cx}{k:Nat}{f C:Addr}{fd:FuncData}{ps:List Str}{sp:Sp}{x m:Str}{p pos apos:Pos}{e:Expr}{es:List Expr}{t:TA}
theorem Ph{pins:List (Addr×Obj)}{σ:St}{H:Hp}{s:Shared}{Q:VK}{us:List Value}{vs:List V}(M:gH X.K C f)(F:ay X.prog X.w X.K X.mg X.base aW k f fd ps sp)(hr:bA (k+1) X.A)(hb:Binds X.K fd ps [])
  (I:Inv X pins σ H s) (r:aT vs us) (hl:vs.length<=sizeLine) (h:∀x,H x=none->sp (.ref x::vs) (upd H x (cI X.b8.heap.objs.size x C none)) (fun v H2=>v=.ax/\Q (.ref x) H2) E0):
  wpAny (model X.prog X.w) X.A (call (.ref C) us) (EP X pins σ Q) X.xe s:=by
 obtain⟨nm,q,N,bs,bm,sn,sub,ab,col,dd,k0,k1,k2,k3,k5,ho,ht⟩:=lE M.is
 obtain⟨hh,g,d,tk,os⟩:=s
 refine x_call (I.bp _ _ ho) (jM (b:=true) (by decide +kernel) bm ht) (jM (b:=false) (by decide +kernel) bm ht) (jM (b:=false) (by decide +kernel) bm ht) (by rw[<-r.length];exact hl)
  (PySem.W.looks_findIn I.bp M.init) (fun self=>PySem.W.bind_fn I.bp self (beq_iff_eq.mp M.fn)) fun h' ea hm hz=>?_
 have hn:H ea=none:=I.aA.fresh hz
 obtain⟨tt,ht1,_,_⟩:=hm.there
 have I2:=I.laid (a:=ea) (o:=cI X.b8.heap.objs.size ea C none) (h':=h') (t':=tk) (fun b u q=>hm.keeps b u q) hz (G5 (Nat.le_trans I.sz hz) ht1)
 have hq:=h ea hn
 have r2:aT (V.ref ea::vs) (Value.ref ea::us):=.cons rfl r
 have hlen:(Value.ref ea::us++[]).length=ps.length:=by
  have e:=r2.length
  rw[F.len _ _ _ _ hq]at e
  rw[List.append_nil]
  exact e.symm
 have bb:=hb _ (Value.ref ea::us) I2.bp hlen
 rw[List.append_nil]at bb
 refine wpAny_call (codeAny_mono (F.run _ X.stack _ _ ⟨Value.ref ea::us,[]⟩ (Value.ref ea::us) _ _ E0 (hr.make C us []) (I2.tw.make C us []) bb r2 hq) fun r s' hq'=>?_)
 cases r with
 |error e=>exact False.elim hq'
 |ok fl=>
  cases fl with
  |ret u=>
   obtain⟨v,H',I3,rv,ev,q3⟩:=I2.after hq'
   subst ev
   exact⟨rv,⟨V.ref ea,H',I3,rfl,q3⟩⟩
  |next=>exact False.elim hq'
  |brk=>exact False.elim hq'
  |cont=>exact False.elim hq'
theorem Pe(M:gH X.K C f)(F:ay X.prog X.w X.K X.mg X.base aW k f fd ps sp)(hr:bA (k+1) X.A)(hg:Gl X x)(hm:X.mg x=some (.ref C))(hb:Binds X.K fd ps [])(ha:PA X (e::es) t)
  (hdb:(x==("__debug__":Str))=false:=by decide) (he:starEach (e::es) X.env=(false,eval e X.env)::starEach es X.env:=by rfl) (hpl:(backTo pos (starEach es X.env)).any (·.1)=false:=by rfl):
  PE X (.Call (.Name x p) (e::es) [] pos) (Ko X.b8.heap.objs.size C sp t):=by
 intro pins s σ H Q I h
 refine wpAny_Call_Name_kw (jg I hg hm ?_ hdb)
 refine PySem.W.callWith_K (h₀:=X.base) I.ok.mod.iW M.kp (aJ (ha pos pins s σ H _ I h) fun us s1⟨vs,H1,I1,r,hl,q⟩=>⟨I1.bp,?_⟩) he hpl
 exact Ph M F hr hb I1 r hl q
end
def gF(H:Hp)(a:Addr):Hp:=fun b=>if b=a then none else H b
theorem B8{H:Hp}{a:Addr}:gF H a a=none:=by unfold gF;rw[if_pos rfl]
theorem lW{H:Hp}{a b:Addr}(h:b≠a):gF H a b=H b:=by unfold gF;rw[if_neg h]
theorem Inv.forget{lo:Nat}{X:Cx}{pins:List (Addr×Obj)}{σ:St}{H:Hp}{s:Shared}{a C:Addr}{dx:Option Addr}(I:Inv X pins σ H s)(e:H a=some (cI lo a C dx)):Inv X pins σ (gF H a) s:=by
 have nn:∀b,H b=none->gF H a b=none:=fun b h=>by
  unfold gF;split
  ·rfl
  ·exact h
 have B:=I.base
 have nx:∀b o,H b=some o->o≠cI lo a C dx->b≠a:=fun b o h hn z=>by rw[z,e]at h;exact hn (Option.some.inj h).symm
 refine⟨I.ok,I.os,I.bare,⟨B.keep,B.slot,fun b o q n hx=>nn b (B.free b o q n hx),B.there,fun b xs q=>?_,fun b o u q=>?_,fun b ps q=>?_⟩,I.loc,I.cell,nn _ I.free,fun x c q=>nn _ (I.dQ x c q),fun p hp=>?_,fun b o q=>?_,I.len⟩
 ·have h:=B.gW b xs q
  rw[lW (nx b _ h (by intro z;cases z))];exact h
 ·have h:=B.gq b o u q
  rw[lW (nx b _ h (by intro z;cases z))];exact h
 ·obtain⟨more,h⟩:=B.gJ b ps q
  exact⟨more,by rw[lW (nx b _ h (by intro z;cases z))];exact h⟩
 ·obtain⟨p1,p2,p3,p4,p5⟩:=I.pin p hp
  exact⟨p1,nn _ p2,p3,p4,p5⟩
 ·have hb:b≠a:=fun z=>by rw[z,B8]at q;cases q
  rw[lW hb]at q
  refine(I.aA b o q).jh (fun c v _ r=>r) (fun c r=>?_) (fun c xs r=>?_)
  ·rw[lW (nx c _ r (by intro z;cases z))];exact r
  ·rw[lW (nx c _ r (by intro z;cases z))];exact r
section
variable {M:Model}{A:Around}{E:Value->Shared->Prop}{env:Env}{nm q:Str}{C N:Addr}{bs bm:List Value}{hdct:Bool}{sn:List Str}{sub:List Value}{ab:Bool}{col:Option Bool}{dd:Option Addr}{k0 k1 k2 k3 k5:Option Value}{newId:String}
theorem x_raise{s:Shared}{x:Sem Value}{Q:Flow->Shared->Prop}(hbase:bm.contains (.type "BaseException")=true)(hh:A.handled=none)
  (h:wpAny M A x (fun v s1=>∃e t dx,v=.ref e/\s1.heap.get? C=some (excClassObj nm q C N bs bm hdct sn sub ab col dd k0 k1 k2 k3 k5 newId)/\
   s1.heap.get? e=some {cls:=.ref C,dict:=some dx,data:=.fields #[.ref t,.none,.none,.none,.bool false,.none]}/\E (.ref e) s1) E s):
  wpAny M A (raiseStmt env (some x) none) Q E s:=by
 have hcB:(Value.ref C::bm).contains (.type "BaseException")=true:=by rw[List.contains_cons,hbase,Bool.or_true]
 unfold raiseStmt
 refine wpAny_bind (wpAny_mono h (fun v s1 h1=>?_) fun _ _ x=>x)
 obtain⟨e,t,dx,rfl,hC,he,hE⟩:=h1
 obtain⟨hp,g,d,tk,os⟩:=s1
 repeat (first|with_reducible refine wpAny_loadPart_at he ?_|with_reducible refine wpAny_loadPart_at hC ?_|(with_reducible refine wpAny_isSubtype_exc hC ?_;rw[hcB])|wp_step)
 exact wpAny_raiseNew_none hh hE
end
section
variable {X:Cx}{E:XK}{e:Expr}{te:TE}{pos:Pos}
def PF(lo:Nat)(K:PySem.W.Frag)(C:Addr)(E:XK)(te:TE):TS:=fun D σ H=>te σ H fun x H1=>∃a fI dx,x=.ref a/\H1 a=some (cI lo a C (some dx))/\gH K C fI/\E (.ref C) (some dx) (gF H1 a)
theorem JX{C:Addr}(hc:X.calm=true)(hx:yg X E)(he:PE X e te)(hk:eD X.K C=true):PS X (.Raise (some e) none pos) (PF X.b8.heap.objs.size X.K C E te):=by
 intro pins s σ H D I h
 obtain⟨nm,q,N,bs,bm,sn,sub,ab,col,dd,k0,k1,k2,k3,k5,ho,ht⟩:=lE hk
 rw[arm_exec_Raise]
 show wpAny _ _ (do standAt pos;raiseStmt X.env (some (do let v <-eval e X.env;standAt pos;pure v)) none) _ _ _
 refine wpAny_bind (wpAny_standAt (x_raise (C:=C) (nm:=nm) (q:=q) (N:=N) (bs:=bs) (bm:=bm) (hdct:=true) (sn:=sn) (sub:=sub) (ab:=ab) (col:=col) (dd:=dd) (k0:=k0) (k1:=k1) (k2:=k2) (k3:=k3) (k5:=k5) (newId:="Exception.__new__")
  (jM (b:=true) (by decide +kernel) bm ht) (I.ok.hd hc) (wpAny_bind (aJ (he pins s σ H _ I h) fun u s1⟨x,H1,I1,rx,a,fI,dx,ex,ea,c,hE⟩=>wpAny_bind (wpAny_standAt (wpAny_pure ?_))))))
 subst ex
 obtain rfl:u=Value.ref a:=rx
 obtain⟨zl,t,hx1⟩:=yy I1.aA ea
 refine⟨a,t,dx,rfl,I1.bp _ _ ho,hx1,?_⟩
 refine hx pins σ (gF H1 a) s1 a (.ref C) dx (I1.forget ea) ⟨_,_,hx1,rfl,rfl,rfl,rfl⟩ zl B8 hE
end
end L2
end
section
set_option Elab.async false
set_option linter.all false
set_option maxRecDepth 100000
set_option maxHeartbeats 4000000
namespace L2
open PySem PySem.Spec PyProof.Rows
open PySem.W (Looks)
structure pw(K:PySem.W.Frag)(C:Addr):Prop where
 is:eD K C=true
 ga:PySem.W.findIn K (.ref C) "__getattribute__"=some (some (.builtin "BaseException.__getattribute__"))
 gh:PySem.W.findIn K (.ref C) "__getattr__"=some none
section
variable {prog:Program}{w:World}{A:Around}{E:Value->Shared->Prop}{s:Shared}{K:PySem.W.Frag}{x C:Addr}{ox od:Obj}{f:Str}{v:Value}{expr:Bool}{Q:Value->Shared->Prop}
theorem HE(X:K.In s.heap)(c:pw K C)(J:PySem.W.InstAt s.heap x ox C (some od))(hn:PySem.W.findIn K (.ref C) f=some none)(hl:PySem.W.lookIn f od=some (some v))(hv:PySem.W.handedIn v=true)
  (h:Q v {s with toks:=s.toks+1}):wpAny (model prog w) A (getAttr (.ref x) f expr) Q E s:=by
 obtain⟨nm,q,N,bs,bm,sn,sub,ab,col,dd,k0,k1,k2,k3,k5,ho,ht⟩:=lE c.is
 have hcl:PySem.W.clsIn K C=some {name:=nm,bases:=bs,mro:=.ref C::bm,ns:=N,qualname:=q,hasDict:=true,slotNames:=sn,subclasses:=sub,abstract:=ab,collection:=col,hasDel:=false}:=by
  unfold PySem.W.clsIn;rw[ho]
 have hB:(Value.ref C::bm).contains (.type "BaseException")=true:=by rw[List.contains_cons,jM (b:=true) (by decide +kernel) bm ht];rfl
 have FB:=PySem.F.attrBase_Exception
 have hfo:PySem.W.findObj K C (some od) f=some (.value v):=PySem.W.findObj_own (by unfold PySem.W.hasDictIn;rw[hcl];rfl) hn rfl hl
 obtain⟨hh,g,d,t,os⟩:=s
 have L0:=J.type (M:=model prog w)
 have L1:=PySem.W.looks_findIn (M:=model prog w) X c.ga
 have L2:=PySem.W.looks_findIn (M:=model prog w) X c.gh
 have L3:=PySem.W.looks_find (M:=model prog w) X J hfo
 have L4:Looks (model prog w) hh (isInstance (.ref x) (.type "BaseException")) true:=L0.andThen (PySem.W.looks_mroIn X (by unfold PySem.W.mroIn;rw[hcl,Option.bind_some,if_neg (by simp),hB]))
 unfold getAttr getAttrBy
 refine wpAny_bind (wpAny_mkText (wpAny_holding (wpAny_bind (L0.at (wpAny_bind (L1.at ?_))))))
 dsimp only
 rw[show(onTheHeap (Value.ref C)&&Value.builtin "BaseException.__getattribute__"==Value.builtin "object.__getattribute__")=false from by rw[show(Value.builtin "BaseException.__getattribute__"==Value.builtin "object.__getattribute__")=false from by decide +kernel,Bool.and_false],if_neg (by decide)]
 have hk:Looks (model prog w) hh (hookBefore (.ref C)) none:=L2
 refine wpAny_bind (hk.at (wpAny_bind (wpAny_attempt (wpAny_holding ?_))))
 unfold callGetattribute
 rw[show(expr&&onTheHeap (Value.builtin "BaseException.__getattribute__"))=false from Bool.and_false _,if_neg (by decide)]
 unfold boundAndCalled
 rw[FB.ga.bind]
 refine wpAny_bind (wpAny_pure ?_)
 show wpAny _ _ (call (.builtin "BaseException.__getattribute__") [.ref x,.str f t]) _ _ _
 refine wpAny_call (codeAny_call_builtin FB.ga.plain PySem.F.entry_bexc_ga (@PySem.W.check_slot (model prog w) _ _ _ "BaseException.__getattribute__" "BaseException" "__getattribute__" (.ref x) [.str f t] [] _ (by decide +kernel) (by decide +kernel) L4 (PySem.F.args_bexc_ga _ _) ?_))
 refine wpAny_bind (wpAny_pure (a:=(Value.ref x,[Value.str f t])) ?_)
 show wpAny _ _ (typeOf (.ref x)>>=fun tp=>Builtin.ObjectAttr.find (.ref x) tp f>>=_) _ _ _
 refine wpAny_bind (L0.at (wpAny_bind (L3.at ?_)))
 refine wpAny_pure ?_
 show wpAny _ _ (handedOut v) _ _ _
 rw[PySem.W.handedOut_of hv];exact wpAny_pure h
end
section
variable {X:Cx}{ta:TE}{f:Str}{e:Expr}{pos:Pos}
def LO(X:Cx)(ta:TE)(f:Str):TE:=fun σ H Q=>ta σ H fun x H1=>∃(ea:Addr)(oe:Obj)(C d:Addr)(fs:List (Str×V))(v:V)(vs:Array Value),x=.ref ea/\(ea,oe)∈X.pn/\oe.cls=.ref C/\oe.dict=some d/\oe.data=.fields vs/\H1 d=some (dC d fs)/\
 pw X.K C/\bu X.K C f/\fs.lookup f=some v/\Q v H1
theorem G3(he:PE X e ta)(hb:attributeBase e f X.env (eval e X.env)=eval e X.env):PE X (.Attribute e f pos) (LO X ta f):=by
 intro pins s σ H Q I h
 refine Ct hb (aJ (he pins s σ H _ I h) fun u s1 hh1=>?_)
 obtain⟨x,H1,I1,rx,ea,oe,C,d,fs,v,vs,ex,hp,hc,hd,hv,ed,c,n,l,q⟩:=hh1
 subst ex
 obtain rfl:u=Value.ref ea:=rx
 have pe:=(I1.pin (ea,oe) (List.mem_append_left _ hp)).1
 obtain⟨mA,hn,r,wi⟩:=Fx I1.aA ed
 obtain⟨od,hod,hlk⟩:=BI hn
 have J:PySem.W.InstAt s1.heap ea oe C (some od):=⟨pe,hc,by unfold PySem.W.notCls;rw[hv],by rw[hd];exact hod⟩
 have rl:=r f
 rw[l]at rl
 obtain⟨y,ey,ry⟩:=rl.some_of
 refine HE I1.bp c J n (by rw[hlk,ey]) (Bw ry) ?_
 exact⟨v,H1,I1.tok _,ry,q⟩
end
end L2
end
section
set_option Elab.async false
set_option linter.all false
set_option maxRecDepth 100000
set_option maxHeartbeats 4000000
namespace L2
open PySem PySem.Spec PyProof.Rows
open PySem.W (Looks)
section
variable {M:Model}{A:Around}{E:Value->Shared->Prop}{h:Heap}{g:Array GenState}{d:Drawn}{t:Nat}{os:OsState}{e C F:Addr}{oe:Obj}{Q:Bool->Shared->Prop}
theorem Mo{K:PySem.W.Frag}(X:K.In h)(hC:eD K C=true)(hF:eD K F=true)(hs:PySem.W.mroIn K C (.ref F)=some true)(he:h.get? e=some oe)(hcls:oe.cls=.ref C)
  (hq:Q true ⟨h,g,d,t,os⟩):wpAny M A (excMatches (.ref e) (.ref F)) Q E ⟨h,g,d,t,os⟩:=by
 obtain⟨nm,q,N,bs,bm,sn,sub,ab,col,dd,k0,k1,k2,k3,k5,ho,ht⟩:=lE hF
 have oF:=X _ _ ho
 have cB:(Value.ref F::bm).contains (.type "BaseException")=true:=by rw[List.contains_cons,jM (b:=true) (by decide +kernel) bm ht];rfl
 have L1:Looks M h (isSubtype (.ref C) (.ref F)) true:=PySem.W.looks_mroIn X hs
 have f:=tc_notTuple
 unfold excMatches
 repeat (first|(with_reducible refine wpAny_loadPart_at he ?_;rw[hcls])|with_reducible refine wpAny_loadPart_at oF ?_|(with_reducible refine wpAny_isSubtype_exc oF ?_;rw[cB])|(with_reducible refine L1.at ?_)|wp_step)
 exact hq
end
section
variable {X:Cx}{pins:List (Addr×Obj)}{σ:St}{H:Hp}{s:Shared}
def blind(X:Cx):St:=List.replicate X.N.length none
theorem CJ{i:Nat}{v:V}(h:(blind X)[i]? =some (some v)):False:=by
 unfold blind at h
 rw[List.getElem?_replicate]at h
 split at h<;>cases h
theorem Inv.Ma(I:Inv X pins σ H s):Inv X pins (blind X) H s:=I.weak (by unfold blind;rw[List.length_replicate,I.len]) fun i v e=>(CJ e).elim
theorem Inv.Jp{h':Heap}{m':Str->Option Value}{t':Nat}(I:Inv X pins σ H s)(hn:h'.Ns X.env.locals m')(hs:Heap.SameBut X.env.locals s.heap h'):Inv X pins (blind X) H {s with heap:=h',toks:=t'}:=by
 have B:=I.base
 have kp:∀b o,b≠X.env.locals->s.heap.get? b=some o->h'.get? b=some o:=fun b o nb q=>(hs.2 b nb).trans q
 have nl:∀b o,X.b8.heap.get? b=some o->b≠X.env.locals:=fun b o q=>Nat.ne_of_lt (Nat.lt_of_lt_of_le (Heap.lt_size q) I.ok.above)
 refine⟨I.ok,I.os,I.bare,⟨fun b o q n nf nx=>kp b o (nl b o q) (B.keep b o q n nf nx),fun b o q n nf nx=>?_,B.free,fun b o q nx=>?_,B.gW,B.gq,B.gJ⟩,⟨m',hn,fun i x v _ e _=>(CJ e).elim⟩,fun x c e=>?_,I.free,I.dQ,fun p hp=>?_,fun b o q=>?_,
  by unfold blind;rw[List.length_replicate]⟩
 ·obtain⟨sl,q'⟩:=B.slot b o q n nf nx
  exact⟨sl,kp b _ (nl b o q) q'⟩
 ·obtain⟨o',q'⟩:=B.there b o q nx
  exact⟨o',kp b _ (nl b o q) q'⟩
 ·obtain⟨v,o,ho,hd⟩:=I.cell x c e
  exact⟨v,o,kp c o (I.j7 x c e) ho,hd⟩
 ·obtain⟨p1,p2,p3,p4,p5⟩:=I.pin p hp
  exact⟨kp p.1 p.2 p3 p1,p2,p3,p4,p5⟩
 ·have nb:∀c u,H c=some u->c≠X.env.locals:=fun c u r z=>by rw[z,I.free]at r;cases r
  refine(I.aA b o q).jh (fun c u hc r=>?_) (fun _ r=>r) fun _ _ r=>r
  rcases hc with rfl|hc
  ·exact kp c u (nb c _ q) r
  ·exact kp c u (nb c _ hc) r
end
abbrev Cx.tr(X:Cx)(E:Value->Shared->Prop)(pn:List (Addr×Obj)):Cx:={X with xe:=E,pn:=pn}
abbrev Cx.fY(X:Cx)(ea:Addr)(pn:List (Addr×Obj)):Cx:={X with A:=X.A.mark (some (.ref ea)),calm:=false,pn:=pn,xe:=fun _ _=>False}
section
variable {X:Cx}{pins pins':List (Addr×Obj)}{σ:St}{H:Hp}{s:Shared}{E:Value->Shared->Prop}{pn:List (Addr×Obj)}
theorem Cx.Ok.tr(ok:X.Ok):(X.tr E pn).Ok:=⟨ok.mod,ok.kind,ok.glob,ok.blt,ok.above,ok.inj,ok.has,ok.jl,ok.hd,ok.frames,ok.jj,ok.jJ,ok.bs,ok.fA,ok.iR,ok.iP,ok.dX,ok.fW⟩
theorem Cx.Ok.lA(ok:(X.tr E pn).Ok):X.Ok:=⟨ok.mod,ok.kind,ok.glob,ok.blt,ok.above,ok.inj,ok.has,ok.jl,ok.hd,ok.frames,ok.jj,ok.jJ,ok.bs,ok.fA,ok.iR,ok.iP,ok.dX,ok.fW⟩
theorem Cx.Ok.fY{ea:Addr}(ok:X.Ok):(X.fY ea pn).Ok:=⟨ok.mod,ok.kind,ok.glob,ok.blt,ok.above,ok.inj,ok.has,ok.jl,(fun z=>by cases z),ok.frames,ok.jj,ok.jJ,ok.bs,ok.fA,ok.iR,ok.iP,ok.dX,ok.fW⟩
theorem Inv.tr(I:Inv X pins σ H s)(h:∀p∈pn++pins',p∈X.pn++pins):Inv (X.tr E pn) pins' σ H s:=⟨I.ok.tr,I.os,I.bare,I.base,I.loc,I.cell,I.free,I.dQ,fun p hp=>I.pin p (h p hp),I.aA,I.len⟩
theorem Inv.lA(I:Inv (X.tr E pn) pins σ H s)(h:∀p∈X.pn++pins',p∈pn++pins):Inv X pins' σ H s:=⟨I.ok.lA,I.os,I.bare,I.base,I.loc,I.cell,I.free,I.dQ,fun p hp=>I.pin p (h p hp),I.aA,I.len⟩
theorem Inv.fY{ea:Addr}(I:Inv X pins σ H s)(h:∀p∈pn++pins',s.heap.get? p.1=some p.2/\H p.1=none/\p.1≠X.env.locals/\p.1∉X.fs/\∀v,p.2.data≠ .cell v):Inv (X.fY ea pn) pins' σ H s:=
 ⟨I.ok.fY,I.os,I.bare,I.base,I.loc,I.cell,I.free,I.dQ,h,I.aA,I.len⟩
theorem Inv.Mn{ea:Addr}(ok:X.Ok)(I:Inv (X.fY ea pn) pins σ H s)(h:∀p∈X.pn++pins',p∈pn++pins):Inv X pins' σ H s:=
 ⟨ok,I.os,I.bare,I.base,I.loc,I.cell,I.free,I.dQ,fun p hp=>I.pin p (h p hp),I.aA,I.len⟩
end
section
variable {X:Cx}{F:Addr}{x n:Str}{i:Nat}{body suite:List Stmt}{b0:Stmt}{np hpos pos:Pos}{tb:XK->TS}{th:Addr->List (Addr×Obj)->TS}
def Gx(X:Cx)(F:Addr)(i:Nat)(th:Addr->List (Addr×Obj)->TS)(D:Ends):XK:=fun cls dx H'=>∃C d,cls=.ref C/\dx=some d/\eD X.K C=true/\PySem.W.mroIn X.K C (.ref F)=some true/\
 ∀(ea:Addr)(oe:Obj)(vs:Array Value)(pn:List (Addr×Obj)),(ea,oe)∈pn->oe.cls=.ref C->oe.dict=some d->oe.data=.fields vs->
  th ea pn {nx:=fun _ H2=>D.nx (blind X) H2,rt:=D.rt} ((blind X).set i (some (.ref ea))) H'
def MZ(X:Cx)(F:Addr)(i:Nat)(tb:XK->TS)(th:Addr->List (Addr×Obj)->TS):TS:=fun D σ H=>tb (Gx X F i th D) D σ H
theorem JT(hN:X.N.Nodup)(hi:X.N[i]? =some n)(hl:X.env.scope.names.lookup n=some .local)(hg:Gl X x)(hm:X.mg x=some (.ref F))(hF:eD X.K F=true)(hst:X.stack=X.env::X.outer)(hfr:X.env.frame=some X.env.locals)(hex:X.ex=[])
  (hb:∀(E:Value->Shared->Prop)(pn:List (Addr×Obj))(Ec:XK),Passes (bh X.prog X.w) (X.tr E pn) Ec->dS (X.tr E pn) body (tb Ec)) (hs:∀(ea:Addr)(pn:List (Addr×Obj)),dS (X.fY ea pn) (b0::suite) (th ea pn))
  (hd:(x==("__debug__":Str))=false:=by decide) (hfn:X.fn n=true:=by rfl):
  PS X (.Try body [.ExceptHandler (some (.Name x np)) (some n) (b0::suite) hpos] [] [] pos) (MZ X F i tb th):=by
 intro pins s σ H D I h
 refine wpAny_Try_except ?_
 generalize hE:(fun e s1=>wpAny (model X.prog X.w) X.A (noteFrame e X.env) (fun _ s2=>wpAny (model X.prog X.w) X.A (setFlight e none) (fun _ s3=>wpAny (model X.prog X.w) X.A
  (handleBy e X.env [.ExceptHandler (some (.Name x np)) (some n) (b0::suite) hpos]) (SP X pins D) X.xe s3) X.xe s2) X.xe s1:Value->Shared->Prop)=E1
 have I':Inv (X.tr E1 (X.pn++pins)) [] σ H s:=I.tr (by simp)
 have hp:Passes (bh X.prog X.w) (X.tr E1 (X.pn++pins)) (Gx X F i th D):=by
  intro pins1 σ1 H1 s1 e s2 J hx
  obtain⟨ea,cls,dx,T,H',rfl,os,bare,un,ok,er,re,ne,z1,z2,n1,n2,C,d0,rfl,hdx,hC,hsub,hth⟩:=hx
  cases hdx
  obtain⟨hh,g,d,t,os'⟩:=s2
  obtain rfl:os'=s1.os:=os
  have I2:=J.call (h':=hh) (g':=g) (d':=d) (t':=t) (ch:=[]) un ok bare (fun b z=>absurd z (by simp))
  show E1 (.ref ea) _
  rw[<-hE]
  have hst2:=I2.stack
  have hfr2:=I2.ok.frames
  have e1:(X.tr E1 (X.pn++pins)).stack=X.env::X.outer:=hst
  rw[e1]at hst2 hfr2
  refine EE hfr2 hst2 hfr er re ne fun h' T' Fe a b c dn oldT=>?_
  have s0:X.b8.heap.objs.size<=s1.heap.objs.size:=J.sz
  have lt:∀b o,s1.heap.get? b=some o->b≠ea/\b≠T:=fun b o q=>⟨Nat.ne_of_lt (Nat.lt_of_lt_of_le (Heap.lt_size q) z1),Nat.ne_of_lt (Nat.lt_of_lt_of_le (Heap.lt_size q) z2)⟩
  have chk:∀b,b=ea\/b=T->(b∈X.ex\/X.b8.heap.objs.size<=b)/\b≠X.env.locals/\(∀x c,X.env.cells.lookup x=some c->c≠b)/\∀p∈(X.pn++pins)++pins1,p.1≠b:=fun b hb=>by
   have zb:s1.heap.objs.size<=b:=by
    rcases hb with rfl|rfl
    ·exact z1
    ·exact z2
   refine⟨.inr (Nat.le_trans s0 zb),Ne.symm (Nat.ne_of_lt (Nat.lt_of_lt_of_le J.lt zb)),fun y c ey q=>?_,fun p hp q=>?_⟩
   ·obtain⟨v,o,ho,_⟩:=J.cell y c ey
    rw[q]at ho
    exact Nat.lt_irrefl _ (Nat.lt_of_lt_of_le (Heap.lt_size ho) zb)
   ·have:=(J.pin p hp).1
    rw[q]at this
    exact Nat.lt_irrefl _ (Nat.lt_of_lt_of_le (Heap.lt_size this) zb)
  have okh:bC X.prog X.w H' h':=fun b u q=>by
   have nf:∀c v,H' c=some v->c∉cv (X.env::X.outer):=fun c v r z=>by
    have:=I2.vJ c (by rw[e1];exact z)
    rw[r]at this;cases this
   have nx:∀c v,H' c=some v->c∉[ea,T]:=fun c v r z=>by
    rcases List.mem_cons.mp z with rfl|z
    ·rw[n1]at r;cases r
    ·rw[List.mem_singleton.mp z,n2]at r;cases r
   refine(I2.aA b u q).jh (fun c v hc r=>?_) (fun _ r=>r) fun _ _ r=>r
   rcases hc with rfl|hc
   ·exact Fe.keep c v r (nx _ _ q) (nf _ _ q)
   ·exact Fe.keep c v r (nx _ _ hc) (nf _ _ hc)
  have un2:Un (cv (X.tr E1 (X.pn++pins)).stack) [ea,T] H' H' hh h':=by
   rw[e1]
   refine⟨fun b o q n nf nx=>Fe.keep b o q nx nf,fun b o q n nf nx=>Fe.slot b o q nx nf,fun _ _ _ n _=>n,fun b o q nx=>?_,fun _ _ q=>q,fun _ _ _ q=>q,fun b ps q=>⟨#[],by rw[q];simp⟩⟩
   by_cases hm:b∈cv (X.env::X.outer)
   ·obtain⟨sl,q'⟩:=Fe.slot b o q nx hm
    exact⟨_,q'⟩
   ·exact⟨_,Fe.keep b o q nx hm⟩
  have I3:=I2.call (h':=h') (g':=g) (d':=d) (t':=t) (ch:=[ea,T]) un2 okh bare (fun b hb=>chk b (by
   rcases List.mem_cons.mp hb with z|z
   ·exact .inl z
   ·exact .inr (List.mem_singleton.mp z)))
  obtain⟨oe,vs,qe,hcls,hdict,hdat,hv1⟩:=id b
  obtain⟨oT,ts,qT,hdT,hT3⟩:=id c
  have I4:Inv X pins (blind X) H' ⟨h',g,d,t,s1.os⟩:=I3.Ma.lA (by
   intro p hp
   exact List.mem_append_left _ hp)
  have hpin:∀p∈(X.pn++pins++[(ea,oe)])++[],(⟨h',g,d,t,s1.os⟩:Shared).heap.get? p.1=some p.2/\H' p.1=none/\p.1≠X.env.locals/\p.1∉X.fs/\∀v,p.2.data≠ .cell v:=fun p hp=>by
   rw[List.append_nil]at hp
   rcases List.mem_append.mp hp with hp|hp
   ·exact I4.pin p hp
   ·rw[List.mem_singleton.mp hp]
    refine⟨qe,n1,(chk ea (.inl rfl)).2.1,fun z=>?_,fun v z=>by rw[hdat]at z;cases z⟩
    obtain⟨_,o,ho,_⟩:=J.ok.dX.mem z
    exact absurd (Nat.lt_of_lt_of_le (Heap.lt_size ho) (Nat.le_trans s0 z1)) (Nat.lt_irrefl _)
  have I5:Inv (X.fY ea (X.pn++pins++[(ea,oe)])) [] (blind X) H' ⟨h',g,d,t,s1.os⟩:=I4.fY hpin
  refine wpAny_handleBy_cons (codeAny_handlers_test ?_) (by intro q;cases q)
  refine jg (X:=X.fY ea (X.pn++pins++[(ea,oe)])) I5 hg hm ?_ hd
  refine Mo I5.bp hC hF hsub qe hcls ?_
  dsimp only
  refine codeAny_handlers_suite_as (wpAny_setFlight_none qe hdat hv1 qT hdT (Array.getElem?_eq_some_iff.mp hT3).1 ?_)
  rw[Heap.update_setField_same h' T' oT ts 3 .none qT hdT hT3]
  refine tO (X:=X.fY ea (X.pn++pins++[(ea,oe)])) I5 hN hi (.inl hl) (show RelV (.ref ea) (.ref ea)from rfl) (fun s6 I6=>?_) (.inl hfn)
  refine wpAny_mono (hs ea (X.pn++pins++[(ea,oe)]) [] s6 _ H' _ I6 (hth ea oe vs _ (List.mem_append_right _ (List.mem_singleton.mpr rfl)) hcls hdict hdat)) (fun fl s7 q7=>?_) fun _ _ z=>False.elim z
  have ho:X.Ok:=I.ok
  have fin:∀(σ':St)(H2:Hp),Inv (X.fY ea (X.pn++pins++[(ea,oe)])) [] σ' H2 s7->∀(Q7:Unit->Shared->Prop)(E7:Value->Shared->Prop),(∀s8,Inv X pins (blind X) H2 s8->Q7 () s8)->
    wpAny (model X.prog X.w) X.A (do bindName X.env n .none;unbindBehindTheSuite X.env n hpos) Q7 E7 s7:=fun σ' H2 I7 Q7 E7 k=>by
   obtain⟨m,hnm,_⟩:=I7.loc
   have I8:Inv X pins σ' H2 s7:=I7.Mn ho (fun p hp=>List.mem_append_left _ (List.mem_append_left _ hp))
   refine wpAny_nameGoes hl hnm (by rw[ho.kind];rfl) fun h9 m9 hn9 hs9=>k _ (I8.Jp hn9 hs9)
  cases fl with
  |next=>
   obtain⟨σ',H2,I7,q⟩:=q7
   exact fin σ' H2 I7 _ _ fun s8 I8=>⟨_,H2,I8,q⟩
  |ret u=>
   obtain⟨v,σ',H2,I7,r,q⟩:=q7
   exact fin σ' H2 I7 _ _ fun s8 I8=>⟨v,_,H2,I8,r,q⟩
  |brk=>obtain⟨_,_,_,q⟩:=q7;exact q.elim
  |cont=>obtain⟨_,_,_,q⟩:=q7;exact q.elim
 refine wpAny_mono (hb E1 (X.pn++pins) _ hp [] s σ H D I' h) (fun fl s1 q=>?_) fun e s1 q=>?_
 ·cases fl with
  |next=>
   obtain⟨σ',H',J,q⟩:=q
   exact wpAny_execs_nil ⟨σ',H',J.lA (fun p hp=>List.mem_append_left _ hp),q⟩
  |ret u=>
   obtain⟨v,σ',H',J,r,q⟩:=q
   exact⟨v,σ',H',J.lA (fun p hp=>List.mem_append_left _ hp),r,q⟩
  |brk=>
   obtain⟨σ',H',J,q⟩:=q
   exact⟨σ',H',J.lA (fun p hp=>List.mem_append_left _ hp),q⟩
  |cont=>
   obtain⟨σ',H',J,q⟩:=q
   exact⟨σ',H',J.lA (fun p hp=>List.mem_append_left _ hp),q⟩
 ·exact q
end
end L2
end
section
section
set_option Elab.async false
set_option linter.all false
set_option maxRecDepth 100000
set_option maxHeartbeats 2000000
namespace L2
open PySem PySem.Spec PyProof.Rows
open PySem.W (WData Codec OpenSpec Well WellAll ReadsW ReadsAllW)
mutual
inductive Dw(K:PySem.W.Frag)(H:Hp):V->WData->Prop
 |ax:Dw K H .ax .none
 |bl (b:Bool):Dw K H (.bl b) (.bool b)
 |int (i:Int):Dw K H (.int i) (.int i)
 |str (x:Str):Dw K H (.str x) (.str x)
 |eN (b:Array UInt8):Dw K H (.eN b) (.bytes b.toList)
 |lst {a:Addr} {xs:List V} {ds:List WData}:aF K H a xs->ff K H xs ds->Dw K H (.ref a) (.list ds)
 |tup {a:Addr} {xs:List V} {ds:List WData}:fq K H a xs->ff K H xs ds->Dw K H (.ref a) (.tuple ds)
inductive ff(K:PySem.W.Frag)(H:Hp):List V->List WData->Prop
 |nil:ff K H [] []
 |cons {v:V} {vs:List V} {d:WData} {ds:List WData}:Dw K H v d->ff K H vs ds->ff K H (v::vs) (d::ds)
end
theorem G0{K:PySem.W.Frag}{H:Hp}:∀ns:List Int,ff K H (ns.map V.int) (ns.map WData.int)
 |[]=>.nil
 |n::r=>.cons (.int n) (G0 r)
theorem E3{K:PySem.W.Frag}{H:Hp}:∀(ns:List Int)(xs:List V),ff K H xs (ns.map WData.int)->xs=ns.map V.int
 |[],xs,h=>by
  cases h
  rfl
 |n::r,xs,h=>by
  cases h with
  |cons h1 h2=>
   cases h1
   rw[E3 r _ h2]<;>rfl
section
variable {P:Program}{w:World}{K:PySem.W.Frag}{H:Hp}{h:Heap}{R:PySem.W.WRecords}{cl:Str->Option Addr}
theorem Lz{a:Addr}{xs:List V}(aA:bC P w H h)(KX:K.In h)(q:aF K H a xs):∃(its:List Value)(o:Obj)(n:Nat),aT xs its/\h.get? a=some o/\o.cls=.type "list"/\o.data=.seq its.toArray n:=by
 rcases q with q|⟨o,its,n,e,hc,_,hd,_,hv⟩
 ·obtain⟨_,its,n,hv,e⟩:=(show cu P w H h a (.lst xs)from q.ok aA)
  exact⟨its,_,n,hv,e,rfl,rfl⟩
 ·exact⟨its.toList,o,n,hv,KX _ _ e,hc,by simp[hd]⟩
theorem ND{a:Addr}{xs:List V}(aA:bC P w H h)(KX:K.In h)(q:fq K H a xs):∃(its:List Value)(o:Obj)(n:Nat),aT xs its/\h.get? a=some o/\o.cls=.type "tuple"/\o.data=.seq its.toArray n:=by
 rcases q with q|⟨o,its,n,e,hc,hd,_,hv⟩
 ·obtain⟨_,its,hv,o,e,hc,n,hd⟩:=(show cu P w H h a (.tup xs)from q.ok aA)
  exact⟨its,o,n,hv,e,hc,hd⟩
 ·exact⟨its.toList,o,n,hv,KX _ _ e,hc,by simp[hd]⟩
mutual
theorem Dw.reads(aA:bC P w H h)(KX:K.In h):∀(d:WData)(v:V)(u:Value),Dw K H v d->RelV v u->∃as,ReadsW R cl h u d as
 | .none,_,_,x,r=>by
  cases x
  cases r
  exact⟨_,ReadsW.none⟩
 | .bool b,_,_,x,r=>by
  cases x
  cases r
  exact⟨_,ReadsW.bool b⟩
 | .int i,_,_,x,r=>by
  cases x
  obtain⟨t,rfl⟩:=r
  exact⟨_,ReadsW.int i t⟩
 | .str s,_,_,x,r=>by
  cases x
  obtain⟨t,rfl⟩:=r
  exact⟨_,ReadsW.str s t⟩
 | .bytes b,_,_,x,r=>by
  cases x
  obtain⟨t,rfl⟩:=r
  exact⟨_,ReadsW.bytes _ t⟩
 | .list ds,_,_,x,r=>by
  cases x with
  |lst hs ha=>
   cases r
   obtain⟨its,o,n,rv,ho,hc,hd⟩:=Lz aA KX hs
   obtain⟨as,hr⟩:=Dw.readsAll aA KX ds _ its ha rv
   exact⟨_,ReadsW.list ho hc hd hr⟩
 | .tuple ds,_,_,x,r=>by
  cases x with
  |tup hs ha=>
   cases r
   obtain⟨its,o,n,rv,ho,hc,hd⟩:=ND aA KX hs
   obtain⟨as,hr⟩:=Dw.readsAll aA KX ds _ its ha rv
   exact⟨_,ReadsW.tuple ho hc hd hr⟩
 | .float _,_,_,x,_=>by cases x
 | .dict _,_,_,x,_=>by cases x
 | .bytearray _,_,_,x,_=>by cases x
 | .set _,_,_,x,_=>by cases x
 | .frozenset _,_,_,x,_=>by cases x
 | .obj _ _,_,_,x,_=>by cases x
theorem Dw.readsAll(aA:bC P w H h)(KX:K.In h):∀(ds:List WData)(vs:List V)(us:List Value),ff K H vs ds->aT vs us->∃as,ReadsAllW R cl h us ds as
 |[],_,_,x,r=>by
  cases x
  cases r
  exact⟨_,ReadsAllW.nil⟩
 |d::ds,_,_,x,r=>by
  cases x with
  |cons h1 h2=>
   cases r with
   |cons r1 r2=>
    obtain⟨as,q1⟩:=Dw.reads aA KX d _ _ h1 r1
    obtain⟨bs,q2⟩:=Dw.readsAll aA KX ds _ _ h2 r2
    exact⟨_,ReadsAllW.cons q1 q2⟩
end
end
mutual
def fi:WData->Bool
 | .none=>true
 | .bool _=>true
 | .int _=>true
 | .str _=>true
 | .bytes _=>true
 | .list xs=>gf xs
 | .tuple xs=>gf xs
 |_=>false
def gf:List WData->Bool
 |[]=>true
 |x::r=>fi x&&gf r
end
theorem Gz{α:Type}{f:α->WData}(h:∀a,fi (f a)=true):∀l:List α,gf (l.map f)=true
 |[]=>rfl
 |x::r=>by
  show(fi (f x)&&gf (r.map f))=true
  rw[h x,Gz h r]<;>rfl
theorem j8:∀(c:Codec)(a:c.denote),fi (c.enc a)=true
 | .unit,_=>rfl
 | .bool,_=>rfl
 | .int _ _,_=>rfl
 | .nat _ _,_=>rfl
 | .u8,_=>rfl
 | .bytes _ _,_=>rfl
 | .text _ _ _ _,_=>rfl
 | .list _ _ c,a=>Gz (fun x=>j8 c x) a
 | .pair c d,a=>by
  show(fi (c.enc a.1)&&(fi (d.enc a.2)&&true))=true
  rw[j8 c a.1,j8 d a.2]<;>rfl
 | .triple c d e,a=>by
  show(fi (c.enc a.1)&&(fi (d.enc a.2.1)&&(fi (e.enc a.2.2)&&true)))=true
  rw[j8 c a.1,j8 d a.2.1,j8 e a.2.2]<;>rfl
 | .option c,none=>rfl
 | .option c,some x=>j8 c x
theorem BV:∀(cs:List Codec)(a:Codec.denoteAll cs),gf (Codec.encAll cs a)=true
 |[],_=>rfl
 |c::cs,a=>by
  show(fi (c.enc a.1)&&gf (Codec.encAll cs a.2))=true
  rw[j8 c a.1,BV cs a.2]<;>rfl
theorem Ae:∀{xs:List WData}{d:WData},d∈xs->d.weight<=WData.weightAll xs
 |[],d,h=>absurd h (by simp)
 |x::r,d,h=>by
  show d.weight<=x.weight+1+WData.weightAll r
  rcases List.mem_cons.mp h with e|m
  ·rw[e]
   lia
  ·have z:=Ae m
   lia
def toV:Value->V
 | .none=>.ax
 | .bool b=>.bl b
 | .int i _=>.int i
 | .str x _=>.str x
 | .bytes b _=>.eN b
 | .ref a=>.ref a
 |_=>.ax
def fB(A:List Addr):Value->Prop
 | .none=>True
 | .bool _=>True
 | .int _ _=>True
 | .str _ _=>True
 | .bytes _ _=>True
 | .ref a=>a∈A
 |_=>False
theorem fB.mono{A B:List Addr}(h:∀a∈A,a∈B):∀{u:Value},fB A u->fB B u:=fun{u}x=>by
 cases u with
 |ref a=>exact h a x
 |none=>trivial
 |bool b=>trivial
 |int i t=>trivial
 |str s t=>trivial
 |bytes b t=>trivial
 |_=>exact False.elim x
theorem OR{A:List Addr}{u:Value}(x:fB A u):RelV (toV u) u:=by
 cases u with
 |ref a=>rfl
 |none=>rfl
 |bool b=>rfl
 |int i t=>exact⟨t,rfl⟩
 |str s t=>exact⟨t,rfl⟩
 |bytes b t=>exact⟨t,rfl⟩
 |_=>exact False.elim x
theorem oj{A:List Addr}:∀{vs:List Value},(∀u∈vs,fB A u)->aT (vs.map toV) vs
 |[],_=>.nil
 |u::r,h=>.cons (OR (h u (List.mem_cons_self ..))) (oj fun x hx=>h x (List.mem_cons_of_mem _ hx))
def gi(h:Heap)(A:List Addr)(a:Addr):Prop:=∃vs:List Value,vs.length<=sizeLine/\(∀u∈vs,fB A u)/\
 (h.get? a=some {cls:=.type "list",data:=.seq vs.toArray}\/h.get? a=some {cls:=.type "tuple",data:=.seq vs.toArray})
theorem gi.mono{h:Heap}{A B:List Addr}{a:Addr}(k:∀a∈A,a∈B)(x:gi h A a):gi h B a:=by
 obtain⟨vs,h1,h2,h3⟩:=x
 exact⟨vs,h1,fun u hu=>(h2 u hu).mono k,h3⟩
theorem tK{P:Params}{h:Heap}:∀{vs:List Value}{ds:List WData},WellAll P h vs ds->vs.length=ds.length
 |_,_,.nil=>rfl
 |_,_,.cons _ b=>by
  show _+1=_+1
  rw[tK b]
theorem F9{P:Params}{h:Heap}{v:Value}{ds:List WData}(x:Well P h v (.list ds)):∃(a:Addr)(vs:List Value),v=.ref a/\h.get? a=some {cls:=.type "list",data:=.seq vs.toArray}/\WellAll P h vs ds:=by
 cases x with
 |list ho hall=>exact⟨_,_,rfl,ho,hall⟩
theorem De{P:Params}{h:Heap}{v:Value}{ds:List WData}(x:Well P h v (.tuple ds)):∃(a:Addr)(vs:List Value),v=.ref a/\h.get? a=some {cls:=.type "tuple",data:=.seq vs.toArray}/\WellAll P h vs ds:=by
 cases x with
 |tuple ho hall=>exact⟨_,_,rfl,ho,hall⟩
theorem CY{P:Params}{h:Heap}{us:List Value}{d:WData}{ds:List WData}(x:WellAll P h us (d::ds)):∃(v:Value)(vs:List Value),us=v::vs/\Well P h v d/\WellAll P h vs ds:=by
 cases x with
 |cons a b=>exact⟨_,_,rfl,a,b⟩
theorem EC{n:Nat}(h:n<=1048576):n<=sizeLine:=Nat.le_trans h (by decide)
section
variable {P:Params}{h:Heap}
mutual
theorem Ks:∀(d:WData)(v:Value),Well P h v d->fi d=true->d.weight<=1048576->∃A:List Addr,fB A v/\∀a∈A,gi h A a
 | .none,_,x,_,_=>by
  cases x
  exact⟨[],trivial,fun a m=>absurd m (by simp)⟩
 | .bool b,_,x,_,_=>by
  cases x
  exact⟨[],trivial,fun a m=>absurd m (by simp)⟩
 | .int i,_,x,_,_=>by
  cases x
  exact⟨[],trivial,fun a m=>absurd m (by simp)⟩
 | .str s,_,x,_,_=>by
  cases x
  exact⟨[],trivial,fun a m=>absurd m (by simp)⟩
 | .bytes b,_,x,_,_=>by
  cases x
  exact⟨[],trivial,fun a m=>absurd m (by simp)⟩
 | .list ds,_,x,p,z=>by
  obtain⟨a,vs,rfl,ho,hall⟩:=F9 x
  have z2:WData.weightAll ds<=1048576:=z
  obtain⟨A,h1,h2⟩:=sI ds _ hall p fun d hd=>Nat.le_trans (Ae hd) z2
  have k:∀b∈A,b∈a::A:=fun b hb=>List.mem_cons_of_mem _ hb
  refine⟨a::A,List.mem_cons_self ..,fun b hb=>?_⟩
  rcases List.mem_cons.mp hb with e|m
  ·rw[e]
   exact⟨vs,EC (by rw[tK hall];exact Nat.le_trans (PySem.W.length_le_weightAllW ds) z2),fun u hu=>(h1 u hu).mono k,.inl ho⟩
  ·exact(h2 b m).mono k
 | .tuple ds,_,x,p,z=>by
  obtain⟨a,vs,rfl,ho,hall⟩:=De x
  have z2:WData.weightAll ds<=1048576:=z
  obtain⟨A,h1,h2⟩:=sI ds _ hall p fun d hd=>Nat.le_trans (Ae hd) z2
  have k:∀b∈A,b∈a::A:=fun b hb=>List.mem_cons_of_mem _ hb
  refine⟨a::A,List.mem_cons_self ..,fun b hb=>?_⟩
  rcases List.mem_cons.mp hb with e|m
  ·rw[e]
   exact⟨vs,EC (by rw[tK hall];exact Nat.le_trans (PySem.W.length_le_weightAllW ds) z2),fun u hu=>(h1 u hu).mono k,.inr ho⟩
  ·exact(h2 b m).mono k
 | .float _,_,_,p,_=>Bool.noConfusion (show false=true from p)
 | .dict _,_,_,p,_=>Bool.noConfusion (show false=true from p)
 | .bytearray _,_,_,p,_=>Bool.noConfusion (show false=true from p)
 | .set _,_,_,p,_=>Bool.noConfusion (show false=true from p)
 | .frozenset _,_,_,p,_=>Bool.noConfusion (show false=true from p)
 | .obj _ _,_,_,p,_=>Bool.noConfusion (show false=true from p)
theorem sI:∀(ds:List WData)(vs:List Value),WellAll P h vs ds->gf ds=true->(∀d∈ds,d.weight<=1048576)->∃A:List Addr,(∀u∈vs,fB A u)/\∀a∈A,gi h A a
 |[],_,x,_,_=>by
  cases x
  exact⟨[],fun u m=>absurd m (by simp),fun a m=>absurd m (by simp)⟩
 |d::ds,_,x,p,z=>by
  obtain⟨v,vs,rfl,x1,x2⟩:=CY x
  have q:fi d=true/\gf ds=true:=Bool.and_eq_true_iff.mp p
  obtain⟨A,a1,a2⟩:=Ks d v x1 q.1 (z d (List.mem_cons_self ..))
  obtain⟨B,b1,b2⟩:=sI ds vs x2 q.2 fun e he=>z e (List.mem_cons_of_mem _ he)
  have kA:∀b∈A,b∈A++B:=fun b hb=>List.mem_append.mpr (.inl hb)
  have kB:∀b∈B,b∈A++B:=fun b hb=>List.mem_append.mpr (.inr hb)
  refine⟨A++B,fun u hu=>?_,fun b hb=>?_⟩
  ·rcases List.mem_cons.mp hu with e|m
   ·rw[e]
    exact a1.mono kA
   ·exact(b1 u m).mono kB
  ·rcases List.mem_append.mp hb with m|m
   ·exact(a2 b m).mono kA
   ·exact(b2 b m).mono kB
end
end
def ue(o:Obj):Option HO:=match o.data with
 | .seq vs _=>if(o.cls==Value.type "list")=true then some (.de o (.lst (vs.toList.map toV)))else some (.de o (.tup (vs.toList.map toV)))
 |_=>none
def dN(K:PySem.W.Frag)(h:Heap)(A:List Addr):Hp:=fun b=>if b∈A then(if(K.lookup b).isNone=true then(h.get? b).bind ue else none)else none
def oY(H:Hp):Prop:=∀b,H b=none\/∃o u,H b=some (.de o u)
theorem DC(vs:List Value):ue {cls:=.type "list",data:=.seq vs.toArray}=some (.de {cls:=.type "list",data:=.seq vs.toArray} (.lst (vs.map toV))):=by
 show(if(Value.type "list"==Value.type "list")=true then some (HO.de {cls:=.type "list",data:=.seq vs.toArray} (.lst (vs.toArray.toList.map toV)))else some (HO.de {cls:=.type "list",data:=.seq vs.toArray} (.tup (vs.toArray.toList.map toV))))=_
 rw[if_pos (beq_self_eq_true _)]
theorem DN(vs:List Value):ue {cls:=.type "tuple",data:=.seq vs.toArray}=some (.de {cls:=.type "tuple",data:=.seq vs.toArray} (.tup (vs.map toV))):=by
 show(if(Value.type "tuple"==Value.type "list")=true then some (HO.de {cls:=.type "tuple",data:=.seq vs.toArray} (.lst (vs.toArray.toList.map toV)))else some (HO.de {cls:=.type "tuple",data:=.seq vs.toArray} (.tup (vs.toArray.toList.map toV))))=_
 rw[if_neg (by decide)]
section
variable {P:Program}{w:World}{K:PySem.W.Frag}{h:Heap}{A:List Addr}
theorem t7{b:Addr}{o:Obj}(hb:b∈A)(hk:K.lookup b=none)(e:h.get? b=some o):dN K h A b=ue o:=by
 unfold dN
 rw[if_pos hb,hk,if_pos (show(none:Option Obj).isNone=true from rfl),e]<;>rfl
theorem M4{b:Addr}{u:HO}(q:dN K h A b=some u):b∈A/\K.lookup b=none:=by
 unfold dN at q
 by_cases hb:b∈A
 ·rw[if_pos hb]at q
  cases hk:K.lookup b with
  |none=>exact⟨hb,rfl⟩
  |some o=>
   rw[hk,if_neg (by simp)]at q
   cases q
 ·rw[if_neg hb]at q
  cases q
theorem uu(ar:∀a∈A,gi h A a){b:Addr}{u:HO}(q:dN K h A b=some u):K.lookup b=none/\∃vs:List Value,vs.length<=sizeLine/\(∀u∈vs,fB A u)/\
  ((h.get? b=some {cls:=.type "list",data:=.seq vs.toArray}/\u=.de {cls:=.type "list",data:=.seq vs.toArray} (.lst (vs.map toV)))\/
   (h.get? b=some {cls:=.type "tuple",data:=.seq vs.toArray}/\u=.de {cls:=.type "tuple",data:=.seq vs.toArray} (.tup (vs.map toV)))):=by
 obtain⟨hb,hk⟩:=M4 q
 obtain⟨vs,h1,h2,h3⟩:=ar b hb
 refine⟨hk,vs,h1,h2,?_⟩
 rcases h3 with e|e
 ·rw[t7 hb hk e,DC]at q
  exact .inl ⟨e,(Option.some.inj q).symm⟩
 ·rw[t7 hb hk e,DN]at q
  exact .inr ⟨e,(Option.some.inj q).symm⟩
theorem Lw(ar:∀a∈A,gi h A a):oY (dN K h A):=fun b=>by
 cases q:dN K h A b with
 |none=>exact .inl rfl
 |some u=>
  obtain⟨_,vs,_,_,⟨_,e⟩|⟨_,e⟩⟩:=uu ar q
  ·exact .inr ⟨_,_,by rw[e]⟩
  ·exact .inr ⟨_,_,by rw[e]⟩
theorem KN(ar:∀a∈A,gi h A a):bC P w (dN K h A) h:=fun b u q=>by
 obtain⟨_,vs,h1,h2,⟨e,rfl⟩|⟨e,rfl⟩⟩:=uu ar q
 ·exact⟨e,by rw[List.length_map];exact h1,vs,_,oj h2,e⟩
 ·exact⟨e,by rw[List.length_map];exact h1,vs,oj h2,_,e,rfl,_,rfl⟩
theorem sW{c c':Value}{vs us:List Value}(e:(some {cls:=c,data:=.seq vs.toArray}:Option Obj)=some {cls:=c',data:=.seq us.toArray}):c=c'/\vs=us:=by
 have e1:=Option.some.inj e
 have e2:c=c':=congrArg Obj.cls e1
 have e3:Data.seq vs.toArray=Data.seq us.toArray:=congrArg Obj.data e1
 injection e3 with e4
 refine⟨e2,?_⟩
 have e5:=congrArg Array.toList e4
 simpa using e5
theorem JG(KX:K.In h)(ar:∀a∈A,gi h A a){a:Addr}{vs:List Value}(ha:a∈A)(e:h.get? a=some {cls:=.type "list",data:=.seq vs.toArray}):(∀u∈vs,fB A u)/\aF K (dN K h A) a (vs.map toV):=by
 obtain⟨us,h1,h2,h3⟩:=ar a ha
 have hu:us=vs:=by
  rcases h3 with q|q
  ·rw[e]at q
   exact(sW q).2.symm
  ·rw[e]at q
   exact absurd (Value.type.inj (sW q).1) (by decide)
 subst hu
 refine⟨h2,?_⟩
 cases hk:K.lookup a with
 |none=>exact .inl (.inr ⟨_,by rw[t7 ha hk e,DC]⟩)
 |some o=>
  have e2:=KX a o hk
  rw[e]at e2
  obtain rfl:=Option.some.inj e2
  exact .inr ⟨_,us.toArray,_,hk,rfl,rfl,rfl,by rw[List.size_toArray];exact h1,by simpa using oj h2⟩
theorem Nt(KX:K.In h)(ar:∀a∈A,gi h A a){a:Addr}{vs:List Value}(ha:a∈A)(e:h.get? a=some {cls:=.type "tuple",data:=.seq vs.toArray}):(∀u∈vs,fB A u)/\fq K (dN K h A) a (vs.map toV):=by
 obtain⟨us,h1,h2,h3⟩:=ar a ha
 have hu:us=vs:=by
  rcases h3 with q|q
  ·rw[e]at q
   exact absurd (Value.type.inj (sW q).1) (by decide)
  ·rw[e]at q
   exact(sW q).2.symm
 subst hu
 refine⟨h2,?_⟩
 cases hk:K.lookup a with
 |none=>exact .inl (.inr ⟨_,by rw[t7 ha hk e,DN]⟩)
 |some o=>
  have e2:=KX a o hk
  rw[e]at e2
  obtain rfl:=Option.some.inj e2
  exact .inr ⟨_,us.toArray,_,hk,rfl,rfl,by rw[List.size_toArray];exact h1,by simpa using oj h2⟩
mutual
theorem OZ{Pm:Params}(KX:K.In h)(ar:∀a∈A,gi h A a):∀(d:WData)(v:Value),Well Pm h v d->fi d=true->fB A v->Dw K (dN K h A) (toV v) d
 | .none,_,x,_,_=>by
  cases x
  exact .ax
 | .bool b,_,x,_,_=>by
  cases x
  exact .bl b
 | .int i,_,x,_,_=>by
  cases x
  exact .int i
 | .str s,_,x,_,_=>by
  cases x
  exact .str s
 | .bytes b,_,x,_,_=>by
  cases x
  have z:=Dw.eN (K:=K) (H:=dN K h A) b.toArray
  exact z
 | .list ds,_,x,p,hu=>by
  obtain⟨a,vs,rfl,ho,hall⟩:=F9 x
  obtain⟨h2,hs⟩:=JG KX ar hu ho
  exact .lst hs (gT KX ar ds _ hall p h2)
 | .tuple ds,_,x,p,hu=>by
  obtain⟨a,vs,rfl,ho,hall⟩:=De x
  obtain⟨h2,hs⟩:=Nt KX ar hu ho
  exact .tup hs (gT KX ar ds _ hall p h2)
 | .float _,_,_,p,_=>Bool.noConfusion (show false=true from p)
 | .dict _,_,_,p,_=>Bool.noConfusion (show false=true from p)
 | .bytearray _,_,_,p,_=>Bool.noConfusion (show false=true from p)
 | .set _,_,_,p,_=>Bool.noConfusion (show false=true from p)
 | .frozenset _,_,_,p,_=>Bool.noConfusion (show false=true from p)
 | .obj _ _,_,_,p,_=>Bool.noConfusion (show false=true from p)
theorem gT{Pm:Params}(KX:K.In h)(ar:∀a∈A,gi h A a):∀(ds:List WData)(vs:List Value),WellAll Pm h vs ds->gf ds=true->(∀u∈vs,fB A u)->ff K (dN K h A) (vs.map toV) ds
 |[],_,x,_,_=>by
  cases x
  exact .nil
 |d::ds,_,x,p,hu=>by
  obtain⟨v,vs,rfl,x1,x2⟩:=CY x
  have q:fi d=true/\gf ds=true:=Bool.and_eq_true_iff.mp p
  exact .cons (OZ KX ar d v x1 q.1 (hu _ (List.mem_cons_self ..))) (gT KX ar ds vs x2 q.2 fun u m=>hu u (List.mem_cons_of_mem _ m))
end
end
theorem Ni{P:Program}{w:World}{K:PySem.W.Frag}{mg mb:Str->Option Value}{CX:eg}{k:Nat}{fa:Addr}{fd:FuncData}{ps:List Str}{sp:Sp}{s₁:Shared}{vals:List Value}{ds:List WData}{R:PySem.W.WRecords}{cl:Str->Option Addr}{d0:WData}
  (KX:K.In s₁.heap) (hns:s₁.heap.Ns mainGlobals mg) (hb:s₁.heap.Ns builtinsNs mb) (hbb:∀x:Str,x≠"__name__"->mb x=bootBuiltins x) (hlim:s₁.heap.NoLimit) (hg:s₁.gens=#[])
  (hwl:WellAll w.params s₁.heap vals ds) (hpl:gf ds=true) (hwt:∀d∈ds,d.weight<=1048576) (hr:bA k callerA)
  (F:∀base:Heap,K.In base->base.Ns mainGlobals mg->ay P w K mg base CX k fa fd ps sp) (hbind:∀(s:Shared)(us:List Value),us.length=ps.length->BindsTo s fd ⟨us,[]⟩ (ps.zip us)) (hlen:ds.length=ps.length)
  (hsp:∀(H:Hp)(xs:List V),oY H->ff K H xs ds->sp xs H (fun v H'=>Dw K H' v d0) fun _ _ _=>False)
  (hCX:∀H e s',CX [] H s₁ (fun _ _ _=>False) e s'->False):
  codeAny (model P w) callerA (.call (.ref fa) ⟨vals,[]⟩) (fun r s'=>∃u as,r=.ok (.ret u)/\ReadsW R cl s'.heap u d0 as/\OldK s₁.heap s'.heap/\s'.os=s₁.os/\AllBare s'.gens) s₁:=by
 obtain⟨A,ho,ar⟩:=sI ds vals hwl hpl hwt
 have hO:oY (dN K s₁.heap A):=Lw ar
 have aA:bC P w (dN K s₁.heap A) s₁.heap:=KN ar
 have hS:=gT KX ar ds vals hwl hpl ho
 have hV:=oj ho
 have hK:∀b u,dN K s₁.heap A b=some u->K.lookup b=none:=fun b u q=>(uu ar q).1
 have noA:∀{b:Addr}{o:Obj}{es:Array DictEntry}{ep:Nat},s₁.heap.get? b=some o->o.data=.dict es ep->dN K s₁.heap A b=none:=fun{b o es ep}e d=>by
  cases q:dN K s₁.heap A b with
  |none=>rfl
  |some u=>
   obtain⟨_,vs,_,_,⟨e2,_⟩|⟨e2,_⟩⟩:=uu ar q
   ·rw[e2]at e
    cases e
    have d':Data.seq vs.toArray _=Data.dict es ep:=d
    cases d'
   ·rw[e2]at e
    cases e
    have d':Data.seq vs.toArray _=Data.dict es ep:=d
    cases d'
 generalize dN K s₁.heap A=H at hO aA hS hK noA
 have base_of:∀{b:Addr}{o:Obj},s₁.heap.get? b=some o->H b=none->(ja s₁.heap H).get? b=some o:=fun e n=>LN e n
 have nsK:∀{b:Addr}{m:Str->Option Value},s₁.heap.Ns b m->(ja s₁.heap H).Ns b m:=fun{b m}⟨o,es,ep,e,d,r⟩=>⟨o,es,ep,base_of e (noA e d),d,r⟩
 have nK:∀b o,K.lookup b=some o->H b=none:=fun b o e=>by
  cases q:H b with
  |none=>rfl
  |some u=>
   rw[hK b u q]at e
   cases e
 have hKb:K.In (ja s₁.heap H):=fun b o e=>base_of (KX b o e) (nK b o e)
 have hM:Mod K mg (ja s₁.heap H):=⟨hKb,nsK hns,⟨mb,nsK hb,hbb⟩,let⟨mc,h1,h2⟩:=hlim;⟨mc,nsK h1,h2⟩⟩
 have e0:iB P w K mg (ja s₁.heap H) callerA [] s₁ H:=⟨rfl,hM,fun b o e=>HS e,Nat.le_of_eq (Pt _ _),trivial,fun b hb=>absurd (show b∈([]:List Addr)from hb) (by simp),aA,.of_eq hg⟩
 have hl:vals.length=ps.length:=by rw[tK hwl];exact hlen
 refine codeAny_mono ((F _ hKb (nsK hns)).run callerA [] s₁ H ⟨vals,[]⟩ vals (vals.map toV) _ _ hr e0 (hbind s₁ vals hl) hV (hsp H _ hO hS)) fun r s' x=>?_
 cases r with
 |error e=>exact(hCX H e s' x).elim
 |ok fl=>
  cases fl with
  |next=>exact False.elim x
  |brk=>exact False.elim x
  |cont=>exact False.elim x
  |ret u=>
   obtain⟨v,H',os,bare,un,hok',r',q⟩:=x
   have kept:∀b o,s₁.heap.get? b=some o->s'.heap.get? b=some o:=fun b o e=>by
    cases q2:H b with
    |none=>exact un.keep b o e q2 (by intro z;exact absurd (show b∈([]:List Addr)from z) (by simp)) (by simp)
    |some u2=>
     rcases hO b with z|⟨ob,u3,z⟩
     ·rw[q2]at z
      cases z
     ·have z2:=un.gq b ob _ z
      obtain⟨e1,_⟩:=aA b _ z
      obtain⟨e2,_⟩:=hok' b _ z2
      rw[e]at e1
      cases e1
      exact e2
   have KX':K.In s'.heap:=fun b o e=>kept b o (KX b o e)
   obtain⟨as,hrd⟩:=Dw.reads (R:=R) (cl:=cl) hok' KX' d0 v u q r'
   exact⟨u,as,rfl,hrd,OldK.of_keep kept,os,bare⟩
theorem Im{ds:List WData}(h:WData.layableAll ds=true):∀d∈ds,d.weight<=1048576:=fun d hd=>
 (PySem.W.layableW_iff.mp (List.all_eq_true.mp h d hd)).2.2
theorem ES:∀(cs:List Codec)(a:Codec.denoteAll cs),(Codec.encAll cs a).length=cs.length
 |[],_=>rfl
 |c::cs,a=>by
  show(Codec.encAll cs a.2).length+1=cs.length+1
  rw[ES cs a.2]
theorem I0{r:OpenSpec}{k:Nat}{q:Program}{loose:List Str}{XP:(Str->Option Value)->Heap->Prop}{YP:World->Heap->Prop}{d:DefRec}{K:Params->PySem.W.Frag}{CX:World->eg}{ps:List Str}{sp:World->Sp}
  (hwell:r.wellSaid=true) (hdf:d.params.defaults=[]) (hlen:r.args.length=ps.length) (hr:bA k callerA)
  (hY:∀(w:World)(h:Heap),YP w h->(K w.params).In h)
  (F:∀(w:World)(mg:Str->Option Value)(fa:Addr)(h:Heap),YP w h->(K w.params).In h->h.Ns mainGlobals mg->mg d.name=some (.ref fa)->
   ∃fd:FuncData,(∀(s:Shared)(us:List Value),us.length=ps.length->BindsTo s fd ⟨us,[]⟩ (ps.zip us))/\
    ∀base:Heap,(K w.params).In base->base.Ns mainGlobals mg->ay r.prog w (K w.params) mg base (CX w) k fa fd ps (sp w))
  (hsp:∀(w:World)(H:Hp)(xs:List V)(a:Codec.denoteAll r.args),oY H->Codec.withinAll r.args a=true->Codec.app r.args r.asked a=true->ff (K w.params) H xs (Codec.encAll r.args a)->
   sp w xs H (fun v H'=>Dw (K w.params) H' v (r.ret.enc (Codec.app r.args r.f a))) fun _ _ _=>False)
  (hCX:∀(w:World)(H:Hp)(s:Shared)(e:Value)(s':Shared),CX w [] H s (fun _ _ _=>False) e s'->False):
  PySem.W.WalkOS q loose XP YP r d [] (fun f vs=>PySem.call f vs):=by
 intro w b8 s₁ mg mb G Y fa o pm cd doc dV kV ho hd hcd hD hmg hg args vals as hpre hlay hrd hwl hlo
 obtain⟨a,e1,e2⟩:=PySem.W.os_pre_some hpre
 obtain⟨e3,hwi⟩:=Codec.encAll_of_decAll r.args args a e1
 subst e3
 have KX:=hY w _ Y
 obtain⟨fd,hb,hF⟩:=F w mg fa _ Y KX G.T.g hmg
 refine PySem.W.enter_call (codeAny_mono (Ni (R:=[]) (cl:=classAt b8.heap) (d0:=r.ret.enc (Codec.app r.args r.f a)) KX G.T.g G.T.b G.T.builtins G.T.nolimit hg hwl (BV _ _) (Im hlay) hr hF hb (by rw[ES];exact hlen)
  (fun H xs hO hS=>hsp w H xs a hO hwi e2 hS) fun H e s'=>hCX w H s₁ e s') fun r' s' hq=>?_)
 obtain⟨u,as',rfl,h1,h2,h3,h4⟩:=hq
 exact⟨.inl ⟨u,_,as',rfl,fun _=>rfl,h1,(OpenSpec.post_iff hwell hwi _ _).mpr rfl,fun z=>Bool.noConfusion (show false=true from z)⟩,h2,h3,h4⟩
theorem HW{r:OpenSpec}{k:Nat}{q:Program}{loose:List Str}{XP:(Str->Option Value)->Heap->Prop}{YP:World->Heap->Prop}{d:DefRec}{K:Params->PySem.W.Frag}{CX:eg}{ps:List Str}{sp:PySem.W.Frag->Sp}
  (hwell:r.wellSaid=true) (hdf:d.params.defaults=[]) (hlen:r.args.length=ps.length) (hr:bA k callerA)
  (hY:∀(w:World)(h:Heap),YP w h->(K w.params).In h)
  (F:∀(w:World)(mg:Str->Option Value)(fa:Addr)(h:Heap),YP w h->(K w.params).In h->h.Ns mainGlobals mg->mg d.name=some (.ref fa)->
   ∃fd:FuncData,(∀(s:Shared)(us:List Value),us.length=ps.length->BindsTo s fd ⟨us,[]⟩ (ps.zip us))/\
    ∀base:Heap,(K w.params).In base->base.Ns mainGlobals mg->ay r.prog w (K w.params) mg base CX k fa fd ps (sp (K w.params)))
  (hsp:∀(K:PySem.W.Frag)(H:Hp)(xs:List V)(a:Codec.denoteAll r.args),oY H->Codec.withinAll r.args a=true->Codec.app r.args r.asked a=true->ff K H xs (Codec.encAll r.args a)->
   sp K xs H (fun v H'=>Dw K H' v (r.ret.enc (Codec.app r.args r.f a))) fun _ _ _=>False)
  (hCX:∀(H:Hp)(s:Shared)(e:Value)(s':Shared),CX [] H s (fun _ _ _=>False) e s'->False):
  PySem.W.WalkOS q loose XP YP r d [] (fun f vs=>PySem.call f vs):=
 I0 (K:=K) (CX:=fun _=>CX) (sp:=fun w=>sp (K w.params)) hwell hdf hlen hr hY F (fun w H xs a h1 h2 h3 h4=>hsp (K w.params) H xs a h1 h2 h3 h4) fun _ H s e s'=>hCX H s e s'
end L2
end
section
set_option Elab.async false
set_option linter.all false
set_option maxRecDepth 100000
set_option maxHeartbeats 2000000
namespace Wale
open PySem PySem.Spec PyProof.Rows L2
def top(i:Nat):Stmt:=PySem.Challenge.pw_waletexts_s02_print_form.main.body.getD i (.Pass ⟨0,0,0,0⟩)
abbrev Ah:Stmt:=top 7
abbrev y8:Stmt:=top 8
abbrev ve:Stmt:=top 20
abbrev yu:Stmt:=top 21
abbrev yo:Stmt:=top 22
abbrev vN:Stmt:=top 23
abbrev xf:Stmt:=top 24
abbrev uz:Stmt:=top 25
abbrev y4:Stmt:=top 26
abbrev xV:Stmt:=top 27
abbrev zO:Stmt:=top 62
abbrev zM:Stmt:=top 63
abbrev xn:Stmt:=top 64
abbrev AN:Stmt:=top 65
abbrev Aa:Stmt:=top 66
abbrev ze:Stmt:=top 67
abbrev sM:Stmt:=top 68
abbrev yQ:Stmt:=top 69
abbrev wH:Stmt:=top 70
abbrev wj:Stmt:=top 71
abbrev Ac:Stmt:=top 72
abbrev xP:Stmt:=top 74
abbrev yS:Stmt:=top 75
abbrev wK:Stmt:=top 76
abbrev zP:Stmt:=top 77
abbrev yn:Stmt:=top 83
abbrev yf:Stmt:=top 84
abbrev AG:Stmt:=top 85
abbrev wa:Stmt:=top 86
abbrev zK:Stmt:=top 87
abbrev xG:Stmt:=top 88
abbrev wU:Stmt:=top 89
abbrev w6:Stmt:=top 90
abbrev yB:Stmt:=top 91
abbrev wV:Stmt:=top 92
abbrev zQ:Stmt:=top 93
abbrev xZ:Stmt:=top 94
abbrev x5:Stmt:=top 95
abbrev AX:Stmt:=top 96
abbrev xU:Stmt:=top 97
abbrev yj:Stmt:=top 98
abbrev v9:Stmt:=top 99
abbrev zU:Stmt:=top 100
abbrev Af:Stmt:=top 101
abbrev xB:Stmt:=top 102
abbrev xu:Stmt:=top 103
abbrev xR:Stmt:=top 104
abbrev uY:Stmt:=top 110
abbrev wC:Stmt:=top 111
abbrev zq:Stmt:=top 112
abbrev wy:Stmt:=inClass (top 3) 0
abbrev AM:Stmt:=inClass (top 4) 0
abbrev AV:Stmt:=inClass (top 5) 0
abbrev yO:Stmt:=inClass (top 6) 0
abbrev Aq:Stmt:=inClass (top 10) 0
abbrev zx:Stmt:=inClass (top 11) 0
abbrev A3:Stmt:=inClass (top 12) 0
abbrev v8:Stmt:=inClass (top 13) 0
abbrev A1:Stmt:=inClass (top 14) 0
abbrev w8:Stmt:=inClass (top 15) 0
abbrev AQ:Stmt:=inClass (top 16) 0
abbrev zj:Stmt:=inClass (top 17) 0
abbrev yU:Stmt:=inClass (top 37) 0
abbrev xj:Stmt:=inClass (top 37) 1
abbrev zm:Stmt:=inClass (top 37) 2
abbrev wD:Stmt:=inClass (top 37) 3
abbrev zc:Stmt:=inClass (top 37) 4
abbrev AH:Stmt:=inClass (top 37) 5
abbrev Am:Stmt:=inClass (top 37) 6
abbrev xF:Stmt:=inClass (top 61) 0
abbrev zt:Stmt:=inClass (top 107) 0
abbrev zY:Stmt:=inClass (top 107) 1
abbrev xJ:Stmt:=inClass (top 107) 2
abbrev zW:Stmt:=inClass (top 107) 3
abbrev yM:Stmt:=inClass (top 107) 4
abbrev w9:Stmt:=inClass (top 107) 5
abbrev wk:Stmt:=inClass (top 107) 6
abbrev zR:Stmt:=inClass (top 107) 7
abbrev AE:Stmt:=inClass (top 107) 8
abbrev wB:Stmt:=inClass (top 107) 9
abbrev Ab:Stmt:=inClass (top 107) 10
structure a9(K:PySem.W.Frag)(mg:Str->Option Value)(x:Str)(st:Stmt)(ps:List Str)(f:Addr)(fd:FuncData):Prop where
 fn:aE K x x st f fd
 bd:Binds K fd ps []
 at_:mg x=some (.ref f)
structure ez(K:PySem.W.Frag)(C:Addr)(x qual:Str)(st:Stmt)(ps:List Str)(f:Addr)(fd:FuncData):Prop where
 fn:aE K x qual st f fd
 bd:Binds K fd ps []
 mt:tD K C x f
structure hX(K:PySem.W.Frag)(mg:Str->Option Value)(x:Str)(C F f:Addr):Prop where
 at_:mg x=some (.ref C)
 xc:gH K C f
 xg:pw K C
 sub:PySem.W.mroIn K C (.ref F)=some true
 nk:bu K C "kind"
 np:bu K C "place"
structure OwnCls(K:PySem.W.Frag)(mg:Str->Option Value)(x:Str)(C f:Addr):Prop where
 at_:mg x=some (.ref C)
 cl:eE K C
 eJ:Mk K C f
def jb(K:PySem.W.Frag)(mg:Str->Option Value)(x:Str)(l:List Str)(d:Addr):Prop:=mg x=some (.ref d)/\∀H:Hp,fq K H d (l.map V.str)
def dO(mg:Str->Option Value)(x:Str)(n:Int):Prop:=∃t,mg x=some (.int n t)
def eL(mg:Str->Option Value)(x:Str)(n:Str):Prop:=∃t,mg x=some (.str n t)
structure k6(P:Program)(w:World)(K:PySem.W.Frag)(a:Addr)(kvs:List (Key×V)):Prop where
 ok:∀h:Heap,K.In h->∃vs,KV kvs vs/\h.DictOf (eK P w) a vs
 ns:(a==sysModules)=false
structure js(K:PySem.W.Frag)(C:Addr):Prop where
 ha:PySem.W.findIn K (.ref C) "__class__"=some (some (.builtin "object.__class__"))
 hm:PySem.W.mroIn K C (.type "object")=some true
set_option genInjectivity false
set_option genSizeOf false
structure Ad where
 rK:Addr
 r9:FuncData
 qz:Addr
 qr:FuncData
 qt:Addr
 sj:FuncData
 oA:Addr
 ou:FuncData
 kI:Addr
 lq:FuncData
 nc:Addr
 oI:FuncData
 kL:Addr
 k7:FuncData
 mz:Addr
 mY:FuncData
 lM:Addr
 lz:FuncData
 mm:Addr
 ma:FuncData
 qh:Addr
 qv:FuncData
 qy:Addr
 qU:FuncData
 sC:Addr
 pH:FuncData
 qd:Addr
 sy:FuncData
 pb:Addr
 pz:FuncData
 qL:Addr
 qZ:FuncData
 pI:Addr
 rB:FuncData
 p8:Addr
 qj:FuncData
 qJ:Addr
 qC:FuncData
 qN:Addr
 qc:FuncData
 qw:Addr
 ql:FuncData
 pL:Addr
 qF:FuncData
 lQ:Addr
 lT:FuncData
 nJ:Addr
 ng:FuncData
 mG:Addr
 nO:FuncData
 qW:Addr
 so:FuncData
 qg:Addr
 pK:FuncData
 qS:Addr
 si:FuncData
 rh:Addr
 pF:FuncData
 rH:Addr
 o6:FuncData
 qx:Addr
 o5:FuncData
 qa:Addr
 q0:FuncData
 sA:Addr
 pS:FuncData
 rT:Addr
 rW:FuncData
 mn:Addr
 mh:FuncData
 lj:Addr
 kM:FuncData
 mN:Addr
 mD:FuncData
 rO:Addr
 rX:FuncData
 qI:Addr
 rn:FuncData
 ro:Addr
 su:FuncData
 kH:Addr
 lV:FuncData
 oz:Addr
 nu:FuncData
 px:Addr
 o8:FuncData
 m3:Addr
 nQ:FuncData
 rR:Addr
 pW:FuncData
 qk:Addr
 pA:FuncData
 pB:Addr
 pj:FuncData
 lR:Addr
 oH:FuncData
 qu:Addr
 qE:FuncData
 qm:Addr
 rP:FuncData
 lI:Addr
 nW:FuncData
 lU:Addr
 m7:FuncData
 kl:Addr
 nj:FuncData
 kY:Addr
 nv:FuncData
 lh:Addr
 m5:FuncData
 lD:Addr
 m4:FuncData
 k8:Addr
 nA:FuncData
 kg:Addr
 nL:FuncData
 k9:Addr
 mQ:FuncData
 lL:Addr
 oG:FuncData
 kS:Addr
 nh:FuncData
 kz:Addr
 nE:FuncData
 lp:Addr
 nD:FuncData
 oR:Addr
 oo:FuncData
 r0:Addr
 rp:FuncData
 pP:Addr
 pR:FuncData
 nU:Addr
 oN:FuncData
 qP:Addr
 p9:FuncData
 pU:Addr
 rC:FuncData
 kh:Addr
 nN:FuncData
 kT:Addr
 o4:FuncData
 oB:Addr
 nY:FuncData
 oV:Addr
 mU:FuncData
 mJ:Addr
 mS:FuncData
 n0:Addr
 my:FuncData
 mq:Addr
 nM:FuncData
 nP:Addr
 o3:FuncData
 oM:Addr
 nX:FuncData
 oE:Addr
 om:FuncData
 oZ:Addr
 o2:FuncData
 mB:Addr
 oJ:FuncData
 dR:Addr
 cD:Addr
 cF:Addr
 cn:Addr
 da:Addr
 rY:Addr
 lF:Addr
 qA:Addr
 nR:Addr
 nV:Addr
 mC:Addr
 pf:Addr
 cg:Addr
 bL:Addr
 bj:Addr
 j1:Addr
 oq:Addr
 nT:Addr
 nz:Addr
 jK:Addr
 ux:Addr
 vq:Addr
 sE:Addr
structure Tx(P:Program)(w:World)(K:PySem.W.Frag)(mg:Str->Option Value)(a:Ad):Prop where
 Al:a9 K mg "chained" Ah ["level","left","sign","right"] a.rK a.r9
 Eb:a9 K mg "has_level" y8 ["node","level"] a.qz a.qr
 Ce:a9 K mg "form_of" ve ["stats"] a.qt a.sj
 xx:a9 K mg "write_stats" yu ["lines","stats","indent"] a.oA a.ou
 GY:a9 K mg "write_stat" yo ["lines","stat","indent"] a.kI a.lq
 Ao:a9 K mg "phrase_text" vN ["phrase"] a.nc a.oI
 Bi:a9 K mg "part_text" xf ["part"] a.kL a.k7
 yF:a9 K mg "listed_text" uz ["listed"] a.mz a.mY
 vw:a9 K mg "sum_text" y4 ["node"] a.lM a.lz
 zh:a9 K mg "operand_text" xV ["chain","operand"] a.mm a.ma
 ET:a9 K mg "token_at" zO ["t","start"] a.qh a.qv
 Cu:a9 K mg "skip_blanks" zM ["t","start"] a.qy a.qU
 FG:a9 K mg "skip_comment" xn ["t","start"] a.sC a.pH
 Ck:a9 K mg "word_token" AN ["t","place"] a.qd a.sy
 GD:a9 K mg "digit_word_at" Aa ["t","place"] a.pb a.pz
 Fw:a9 K mg "number_token" ze ["t","place"] a.qL a.qZ
 spelled:a9 K mg "spelled" sM ["codes"] a.pI a.rB
 sign_of:a9 K mg "sign_of" yQ ["byte"] a.p8 a.qj
 rm:a9 K mg "is_letter" wH ["byte"] a.qJ a.qC
 pQ:a9 K mg "is_digit" wj ["byte"] a.qN a.qc
 GI:a9 K mg "is_letter_digit_or_underscore" Ac ["byte"] a.qw a.ql
 yw:a9 K mg "begins_sum" xP ["token"] a.pL a.qF
 iH:a9 K mg "read_sum" yS ["reader"] a.lQ a.lT
 wm:a9 K mg "read_product" wK ["reader"] a.nJ a.ng
 yP:a9 K mg "read_factor" zP ["reader"] a.mG a.nO
 Gk:a9 K mg "read_pattern" yn ["reader"] a.qW a.so
 GR:a9 K mg "read_head" yf ["reader"] a.qg a.pK
 Cb:a9 K mg "read_sizes" AG ["reader","token"] a.qS a.si
 GA:a9 K mg "read_yarns" wa ["reader","token"] a.rh a.pF
 xM:a9 K mg "read_new_names" zK ["reader","kind"] a.rH a.o6
 zT:a9 K mg "read_new_name" xG ["reader","kind"] a.qx a.o5
 BW:a9 K mg "read_let" wU ["reader"] a.qa a.q0
 B7:a9 K mg "read_word" w6 ["reader"] a.sA a.pS
 CP:a9 K mg "read_block" yB ["reader"] a.rT a.rW
 wc:a9 K mg "read_braces" wV ["reader"] a.mn a.mh
 AW:a9 K mg "read_stats" zQ ["reader"] a.lj a.kM
 DR:a9 K mg "read_stat" xZ ["reader"] a.mN a.mD
 GF:a9 K mg "read_on" x5 ["reader"] a.rO a.rX
 Ew:a9 K mg "read_row" AX ["reader"] a.qI a.rn
 Cv:a9 K mg "read_work" xU ["reader"] a.ro a.su
 sG:a9 K mg "read_row_items" yj ["reader"] a.kH a.lV
 zL:a9 K mg "read_row_item" v9 ["reader"] a.oz a.nu
 FE:a9 K mg "read_goal" zU ["reader"] a.px a.o8
 DW:a9 K mg "read_unit" Af ["reader"] a.m3 a.nQ
 GW:a9 K mg "read_crossing" xB ["reader"] a.rR a.pW
 yH:a9 K mg "read_crossing_number" xu ["reader"] a.qk a.pA
 EF:a9 K mg "read_lone" xR ["reader"] a.pB a.pj
 print_form:a9 K mg "print_form" uY ["t"] a.lR a.oH
 BK:a9 K mg "read_text" wC ["t"] a.qu a.qE
 refusal:a9 K mg "refusal" zq ["fault"] a.qm a.rP
 iS:aE K "__init__" "Stat.__init__" wy a.lI a.nW/\Binds K a.nW ["self","phrase","body"] []
 uF:aE K "__init__" "Listed.__init__" AM a.lU a.m7/\Binds K a.m7 ["self","phrases"] []
 Cz:aE K "__init__" "Bracketed.__init__" AV a.kl a.nj/\Binds K a.nj ["self","listed"] []
 Cp:aE K "__init__" "Chain.__init__" yO a.kY a.nv/\Binds K a.nv ["self","level","first"] []
 jZ:aE K "__init__" "Fault.__init__" Aq a.lh a.m5/\Binds K a.m5 ["self","kind","place"] []
 vY:aE K "__init__" "ByteFault.__init__" zx a.lD a.m4/\Binds K a.m4 ["self","place"] []
 B1:aE K "__init__" "NumberFault.__init__" A3 a.k8 a.nA/\Binds K a.nA ["self","place"] []
 yJ:aE K "__init__" "WantFault.__init__" v8 a.kg a.nL/\Binds K a.nL ["self","place"] []
 Cm:aE K "__init__" "UntoldFault.__init__" A1 a.k9 a.mQ/\Binds K a.mQ ["self","place"] []
 uk:aE K "__init__" "AgainFault.__init__" w8 a.lL a.oG/\Binds K a.oG ["self","place"] []
 qf:aE K "__init__" "BoundFault.__init__" AQ a.kS a.nh/\Binds K a.nh ["self","place"] []
 FZ:aE K "__init__" "SumsFault.__init__" zj a.kz a.nE/\Binds K a.nE ["self","place"] []
 Ei:aE K "__init__" "Names.__init__" yU a.lp a.nD/\Binds K a.nD ["self"] []
 eS:ez K a.cg "amount" "Names.amount" xj ["self","kind"] a.oR a.oo
 wJ:ez K a.cg "check_new" "Names.check_new" zm ["self","token","kind"] a.r0 a.rp
 qO:ez K a.cg "check_room" "Names.check_room" wD ["self","token","kind"] a.pP a.pR
 iU:ez K a.cg "tell" "Names.tell" zc ["self","token","kind"] a.nU a.oN
 y1:ez K a.cg "check_told" "Names.check_told" AH ["self","token","kind"] a.qP a.p9
 yW:ez K a.cg "stand" "Names.stand" Am ["self","token","kind"] a.pU a.rC
 By:aE K "__init__" "Token.__init__" xF a.kh a.nN/\Binds K a.nN ["self","kind","text","number","place","after"] []
 Ci:aE K "__init__" "Reader.__init__" zt a.kT a.o4/\Binds K a.o4 ["self","t"] []
 bX:ez K a.bj "peek" "Reader.peek" zY ["self"] a.oB a.nY
 cT:ez K a.bj "step" "Reader.step" xJ ["self"] a.oV a.mU
 d5:ez K a.bj "skip" "Reader.skip" zW ["self","text"] a.mJ a.mS
 cQ:ez K a.bj "want" "Reader.want" yM ["self","text"] a.n0 a.my
 fJ:ez K a.bj "want_kind" "Reader.want_kind" w9 ["self","kind"] a.mq a.nM
 lN:ez K a.bj "enter" "Reader.enter" wk ["self","text"] a.nP a.o3
 lg:ez K a.bj "leave" "Reader.leave" zR ["self","text"] a.oM a.nX
 jk:ez K a.bj "want_new_name" "Reader.want_new_name" AE ["self","kind"] a.oE a.om
 iI:ez K a.bj "want_told_name" "Reader.want_told_name" wB ["self","kind"] a.oZ a.o2
 ji:ez K a.bj "want_standing_name" "Reader.want_standing_name" Ab ["self","kind"] a.mB a.oJ
 eh:mg "Fault"=some (.ref a.da)/\xI K a.da "__init__" a.lh/\eD K a.da=true
 pT:hX K mg "ByteFault" a.rY a.da a.lD
 wz:hX K mg "NumberFault" a.lF a.da a.k8
 vR:hX K mg "WantFault" a.qA a.da a.kg
 B6:hX K mg "UntoldFault" a.nR a.da a.k9
 mE:hX K mg "AgainFault" a.nV a.da a.lL
 jB:hX K mg "BoundFault" a.mC a.da a.kS
 DJ:hX K mg "SumsFault" a.pf a.da a.kz
 c9:OwnCls K mg "Stat" a.dR a.lI
 wI:bu K a.dR "phrase"
 tZ:bu K a.dR "body"
 ip:OwnCls K mg "Listed" a.cD a.lU
 Ge:bu K a.cD "phrases"
 ll:OwnCls K mg "Bracketed" a.cF a.kl
 BR:bu K a.cF "listed"
 d8:OwnCls K mg "Chain" a.cn a.kY
 uH:bu K a.cn "level"
 Fk:bu K a.cn "first"
 uK:bu K a.cn "pairs"
 cA:OwnCls K mg "Names" a.cg a.lp
 uJ:bu K a.cg "told"
 AO:bu K a.cg "standing"
 sZ:bu K a.cg "amounts"
 bz:OwnCls K mg "Token" a.bL a.kh
 kj:bu K a.bL "kind"
 bZ:bu K a.bL "text"
 qK:bu K a.bL "number"
 gL:bu K a.bL "place"
 Eg:bu K a.bL "after"
 bE:OwnCls K mg "Reader" a.bj a.kT
 Bn:bu K a.bj "source"
 nq:bu K a.bj "ahead"
 Av:bu K a.bj "after"
 va:bu K a.bj "depth"
 fP:bu K a.bj "names"
 OG:dO mg "SUM_LEVEL" 1
 OD:dO mg "PRODUCT_LEVEL" 2
 Pp:eL mg "DEEPER" "  "
 AY:eL mg "SIZES" "sizes"
 ya:eL mg "YARNS" "yarns"
 ui:eL mg "NUMBERS" "numbers"
 xh:eL mg "WORDS" "words"
 wY:eL mg "BLOCKS" "blocks"
 G8:eL mg "MARKERS" "markers"
 D0:eL mg "HOLDERS" "holders"
 MQ:mg "BOUNDS"=some (.ref a.j1)/\k6 P w K a.j1 [(.inr "sizes",.int 16),(.inr "yarns",.int 16),(.inr "numbers",.int 256),(.inr "words",.int 64),(.inr "blocks",.int 64),(.inr "markers",.int 64),(.inr "holders",.int 16)]
 BQ:eL mg "END" "end"
 jA:eL mg "NAME" "name"
 vV:eL mg "NUMBER" "number"
 zf:eL mg "FIXED" "fixed"
 JK:jb K mg "DIGIT_WORDS" ["k2tog","k3tog","p2tog","m1l","m1r"] a.oq
 Mc:dO mg "LONGEST_DIGIT_WORD" 5
 BH:jb K mg "PLAIN" ["k","p","ktbl","ptbl","yo","k2tog","k3tog","ssk","sssk","p2tog","ssp","cdd","kfb","pfb","kp","m1l","m1r","sl","slf","pso","even","co","bo"] a.nT
 Qs:jb K mg "OTHER_WORDS" ["pattern","sizes","yarns","let","word","block","on","round","row","rs","ws","repeat","until","work","off","to","end","last","mark","cl","cr","hold","take","yarn","pass","clear","turn","fasten"] a.nz
 Fh:mg "SIGNS"=some (.ref a.jK)/\k6 P w K a.jK [(.inl 40,.str "("),(.inl 41,.str ")"),(.inl 42,.str "*"),(.inl 43,.str "+"),(.inl 44,.str ","),(.inl 45,.str "-"),(.inl 47,.str "/"),(.inl 59,.str ";"),(.inl 61,.str "="),(.inl 91,.str "["),(.inl 93,.str "]"),(.inl 123,.str "{"),(.inl 125,.str "}")]
 O0:eL mg "LETTERS" "abcdefghijklmnopqrstuvwxyz"
 Kf:eL mg "DIGITS" "0123456789"
 FV:dO mg "LINE_END" 10
 OH:dO mg "BLANK" 32
 Lk:dO mg "HASH" 35
 vS:dO mg "ZERO" 48
 K2:dO mg "NINE" 57
 He:dO mg "UNDERSCORE" 95
 Gw:dO mg "LOWER_A" 97
 J3:dO mg "LOWER_Z" 122
 KW:dO mg "FIRST_BYTE" 32
 HY:dO mg "LAST_BYTE" 126
 FU:dO mg "LARGEST_NUMBER" 1048576
 Hu:jb K mg "HEADS" ["sizes","yarns","let","word","block"] a.ux
 IF:jb K mg "STATS" ["on","row","repeat","until","work","off"] a.vq
 Ic:jb K mg "LONES" ["take","yarn","mark","pass","clear","turn","fasten"] a.sE
 JI:dO mg "LARGEST_CROSSING" 16
 J1:dO mg "DEEPEST" 8
 Co:dO mg "LONGEST_TEXT" 16384
 LF:PySem.W.specialIn K (.builtin "object.__class__") "__get__"=some (some (.builtin "getset_descriptor.__get__"))
 HC:PySem.W.takesIn K (.builtin "object.__class__")=some true
 ED:js K a.cF
 LJ:PySem.W.kitOne K (.type "str") (.ref a.cF)=some false
 OA:PySem.W.kitOne K (.ref a.cF) (.ref a.cF)=some true
 Qw:PySem.W.kitOne K (.ref a.cF) (.ref a.cn)=some false
 Jj:PySem.W.kitOne K (.ref a.cF) (.ref a.cD)=some false
 uh:js K a.cn
 zy:PySem.W.kitOne K (.type "str") (.ref a.cn)=some false
 MB:PySem.W.kitOne K (.ref a.cn) (.ref a.cF)=some false
 x4:PySem.W.kitOne K (.ref a.cn) (.ref a.cn)=some true
 Ki:PySem.W.kitOne K (.ref a.cn) (.ref a.cD)=some false
 O9:js K a.cD
 JQ:PySem.W.kitOne K (.type "str") (.ref a.cD)=some false
 Qx:PySem.W.kitOne K (.ref a.cD) (.ref a.cF)=some false
 Qy:PySem.W.kitOne K (.ref a.cD) (.ref a.cn)=some false
 NG:PySem.W.kitOne K (.ref a.cD) (.ref a.cD)=some true
 gB:mg "len"=none
 IW:mg "min"=none
 pD:mg "isinstance"=none
 O4:mg "ord"=none
 JD:mg "str"=none
end Wale
end
section
set_option Elab.async false
set_option linter.all false
set_option maxRecDepth 100000
set_option maxHeartbeats 2000000
namespace Wale
open PySem PySem.Spec PyProof.Rows L2
section
variable {X:Cx}{x:Str}{pos p:Pos}
theorem cP{n:Int}(h:dO X.mg x n)(hg:Gl X x:=by rfl)(hd:(x==("__debug__":Str))=false:=by decide):PE X (.Name x pos) (tC (.int n)):=by
 obtain⟨t,e⟩:=h
 exact rD hg e ⟨t,rfl⟩ hd
theorem bB{n:Str}(h:eL X.mg x n)(hg:Gl X x:=by rfl)(hd:(x==("__debug__":Str))=false:=by decide):PE X (.Name x pos) (tC (.str n)):=by
 obtain⟨t,e⟩:=h
 exact rD hg e ⟨t,rfl⟩ hd
theorem aQ{CX:eg}{k:Nat}{st:Stmt}{ps:List Str}{f:Addr}{fd:FuncData}{sp:Sp}{E:XK}{e:Expr}{es:List Expr}{t:TA}(D:a9 X.K X.mg x st ps f fd)(G:ay X.prog X.w X.K X.mg X.base CX k f fd ps sp)(hr:bA k X.A)(hx:Passes CX X E)(ha:PA X (e::es) t)
  (hg:Gl X x:=by rfl) (hdb:(x==("__debug__":Str))=false:=by decide) (he:starEach (e::es) X.env=(false,eval e X.env)::starEach es X.env:=by rfl) (hpl:(backTo pos (starEach es X.env)).any (·.1)=false:=by rfl):
  PE X (.Call (.Name x p) (e::es) [] pos) (o9 sp [] E t):=J2 G hr hg D.at_ D.fn.kp D.bd .nil hx ha hdb he hpl
end
variable {P:Program}{w:World}{K:PySem.W.Frag}{mg:Str->Option Value}{base:Heap}{a:Ad}
def P6(K:PySem.W.Frag)(a:Ad)(C:Addr):Prop:=eD K C=true/\pw K C/\PySem.W.mroIn K C (.ref a.da)=some true/\bu K C "kind"/\bu K C "place"
def Told(K:PySem.W.Frag)(a:Ad)(E:XK)(k n:Int):Prop:=∀(C d:Addr)(H':Hp),P6 K a C->H' d=some (dC d [("kind",.int k),("place",.int n)])->E (.ref C) (some d) H'
def Hz(K:PySem.W.Frag):Sp:=fun vs H Q _=>∃(lo:Nat)(x C fI:Addr)(k n:Int),vs=[.ref x,.int k,.int n]/\H x=some (cI lo x C none)/\gH K C fI/\bu K C "kind"/\bu K C "place"/\
 ∀(H':Hp)(d:Addr),H' x=some (cI lo x C (some d))->H' d=some (dC d [("kind",.int k),("place",.int n)])->d≠x->Q .ax H'
def iG(K:PySem.W.Frag)(C:Addr)(k:Int):Sp:=fun vs H Q _=>∃(lo:Nat)(x fI:Addr)(n:Int),vs=[.ref x,.int n]/\H x=some (cI lo x C none)/\gH K C fI/\bu K C "kind"/\bu K C "place"/\
 ∀(H':Hp)(d:Addr),H' x=some (cI lo x C (some d))->H' d=some (dC d [("kind",.int k),("place",.int n)])->d≠x->Q .ax H'
theorem Hn:aI ["self","kind","place"] ["self","kind","place"] (aB Aq):=⟨rfl,rfl,rfl,by decide +kernel,rfl,by decide +kernel,by decide +kernel⟩
theorem lX(T:Tx P w K mg a):ay P w K mg base aW 1 a.lh a.m5 ["self","kind","place"] (Hz K):=by
 refine T.jZ.1.ok Hn (fun vs H Q E h=>?_) (fun cdv A outer s H vs Q E hr h=>?_)
 ·obtain⟨_,_,_,_,_,_,rfl,_⟩:=h;rfl
 obtain⟨lo,x,C,fI,k,n,rfl,hx,xc,nk,np,q⟩:=h
 refine⟨_,ai (MI (pv 0) (pv 1) rfl) (aj (HN (pv 0) (pv 2) rfl)),?_⟩
 refine(eX _ rfl (eX _ rfl ⟨lo,x,C,fI,rfl,hx,xc,nk,fun d hd hne=>?_⟩))
 refine(eX _ rfl (eX _ rfl ⟨lo,x,C,fI,d,eX _ rfl ⟨aw,(by rw[ak hne];exact aw),hne,xc,np,(by show 1<1000;decide),?_⟩⟩))
 exact q _ d (by rw[ak (Ne.symm hne)];exact aw) aw hne
theorem Kp:aI ["self","place"] ["self","place"] (aB zx):=⟨rfl,rfl,rfl,by decide +kernel,rfl,by decide +kernel,by decide +kernel⟩
theorem EL(T:Tx P w K mg a):ay P w K mg base aW 2 a.lD a.m4 ["self","place"] (iG K a.rY 1):=by
 refine T.vY.1.ok Kp (fun vs H Q E h=>?_) (fun cdv A outer s H vs Q E hr h=>?_)
 ·obtain⟨_,_,_,_,rfl,_⟩:=h;rfl
 obtain⟨lo,x,fI,n,rfl,hx,xc,nk,np,q⟩:=h
 refine⟨_,aj (a3 (lP rfl T.eh.1 T.eh.2.1 (lX T) hr T.jZ.2 .nil aU (aa (pv 0) (aa bW (aa (pv 1) ag))))),?_⟩
 exact(eX _ rfl (eX _ rfl ⟨lo,x,_,fI,1,n,rfl,hx,xc,nk,np,fun H' d h1 h2 h3=>q H' d h1 h2 h3⟩))
theorem Po:aI ["self","place"] ["self","place"] (aB A3):=⟨rfl,rfl,rfl,by decide +kernel,rfl,by decide +kernel,by decide +kernel⟩
theorem Om(T:Tx P w K mg a):ay P w K mg base aW 2 a.k8 a.nA ["self","place"] (iG K a.lF 2):=by
 refine T.B1.1.ok Po (fun vs H Q E h=>?_) (fun cdv A outer s H vs Q E hr h=>?_)
 ·obtain⟨_,_,_,_,rfl,_⟩:=h;rfl
 obtain⟨lo,x,fI,n,rfl,hx,xc,nk,np,q⟩:=h
 refine⟨_,aj (a3 (lP rfl T.eh.1 T.eh.2.1 (lX T) hr T.jZ.2 .nil aU (aa (pv 0) (aa bW (aa (pv 1) ag))))),?_⟩
 exact(eX _ rfl (eX _ rfl ⟨lo,x,_,fI,2,n,rfl,hx,xc,nk,np,fun H' d h1 h2 h3=>q H' d h1 h2 h3⟩))
theorem HV:aI ["self","place"] ["self","place"] (aB v8):=⟨rfl,rfl,rfl,by decide +kernel,rfl,by decide +kernel,by decide +kernel⟩
theorem CG(T:Tx P w K mg a):ay P w K mg base aW 2 a.kg a.nL ["self","place"] (iG K a.qA 3):=by
 refine T.yJ.1.ok HV (fun vs H Q E h=>?_) (fun cdv A outer s H vs Q E hr h=>?_)
 ·obtain⟨_,_,_,_,rfl,_⟩:=h;rfl
 obtain⟨lo,x,fI,n,rfl,hx,xc,nk,np,q⟩:=h
 refine⟨_,aj (a3 (lP rfl T.eh.1 T.eh.2.1 (lX T) hr T.jZ.2 .nil aU (aa (pv 0) (aa bW (aa (pv 1) ag))))),?_⟩
 exact(eX _ rfl (eX _ rfl ⟨lo,x,_,fI,3,n,rfl,hx,xc,nk,np,fun H' d h1 h2 h3=>q H' d h1 h2 h3⟩))
theorem OE:aI ["self","place"] ["self","place"] (aB A1):=⟨rfl,rfl,rfl,by decide +kernel,rfl,by decide +kernel,by decide +kernel⟩
theorem NP(T:Tx P w K mg a):ay P w K mg base aW 2 a.k9 a.mQ ["self","place"] (iG K a.nR 4):=by
 refine T.Cm.1.ok OE (fun vs H Q E h=>?_) (fun cdv A outer s H vs Q E hr h=>?_)
 ·obtain⟨_,_,_,_,rfl,_⟩:=h;rfl
 obtain⟨lo,x,fI,n,rfl,hx,xc,nk,np,q⟩:=h
 refine⟨_,aj (a3 (lP rfl T.eh.1 T.eh.2.1 (lX T) hr T.jZ.2 .nil aU (aa (pv 0) (aa bW (aa (pv 1) ag))))),?_⟩
 exact(eX _ rfl (eX _ rfl ⟨lo,x,_,fI,4,n,rfl,hx,xc,nk,np,fun H' d h1 h2 h3=>q H' d h1 h2 h3⟩))
theorem NN:aI ["self","place"] ["self","place"] (aB w8):=⟨rfl,rfl,rfl,by decide +kernel,rfl,by decide +kernel,by decide +kernel⟩
theorem xE(T:Tx P w K mg a):ay P w K mg base aW 2 a.lL a.oG ["self","place"] (iG K a.nV 5):=by
 refine T.uk.1.ok NN (fun vs H Q E h=>?_) (fun cdv A outer s H vs Q E hr h=>?_)
 ·obtain⟨_,_,_,_,rfl,_⟩:=h;rfl
 obtain⟨lo,x,fI,n,rfl,hx,xc,nk,np,q⟩:=h
 refine⟨_,aj (a3 (lP rfl T.eh.1 T.eh.2.1 (lX T) hr T.jZ.2 .nil aU (aa (pv 0) (aa bW (aa (pv 1) ag))))),?_⟩
 exact(eX _ rfl (eX _ rfl ⟨lo,x,_,fI,5,n,rfl,hx,xc,nk,np,fun H' d h1 h2 h3=>q H' d h1 h2 h3⟩))
theorem O8:aI ["self","place"] ["self","place"] (aB AQ):=⟨rfl,rfl,rfl,by decide +kernel,rfl,by decide +kernel,by decide +kernel⟩
theorem vO(T:Tx P w K mg a):ay P w K mg base aW 2 a.kS a.nh ["self","place"] (iG K a.mC 6):=by
 refine T.qf.1.ok O8 (fun vs H Q E h=>?_) (fun cdv A outer s H vs Q E hr h=>?_)
 ·obtain⟨_,_,_,_,rfl,_⟩:=h;rfl
 obtain⟨lo,x,fI,n,rfl,hx,xc,nk,np,q⟩:=h
 refine⟨_,aj (a3 (lP rfl T.eh.1 T.eh.2.1 (lX T) hr T.jZ.2 .nil aU (aa (pv 0) (aa bW (aa (pv 1) ag))))),?_⟩
 exact(eX _ rfl (eX _ rfl ⟨lo,x,_,fI,6,n,rfl,hx,xc,nk,np,fun H' d h1 h2 h3=>q H' d h1 h2 h3⟩))
theorem L7:aI ["self","place"] ["self","place"] (aB zj):=⟨rfl,rfl,rfl,by decide +kernel,rfl,by decide +kernel,by decide +kernel⟩
theorem K3(T:Tx P w K mg a):ay P w K mg base aW 2 a.kz a.nE ["self","place"] (iG K a.pf 7):=by
 refine T.FZ.1.ok L7 (fun vs H Q E h=>?_) (fun cdv A outer s H vs Q E hr h=>?_)
 ·obtain⟨_,_,_,_,rfl,_⟩:=h;rfl
 obtain⟨lo,x,fI,n,rfl,hx,xc,nk,np,q⟩:=h
 refine⟨_,aj (a3 (lP rfl T.eh.1 T.eh.2.1 (lX T) hr T.jZ.2 .nil aU (aa (pv 0) (aa bW (aa (pv 1) ag))))),?_⟩
 exact(eX _ rfl (eX _ rfl ⟨lo,x,_,fI,7,n,rfl,hx,xc,nk,np,fun H' d h1 h2 h3=>q H' d h1 h2 h3⟩))
section
variable {X:Cx}{E:XK}{x:Str}{e:Expr}{te:TE}{p pos pos':Pos}{C f:Addr}{fd:FuncData}{k:Int}
theorem Kh{H:Hp}{x d:Addr}{o:HO}(h:H d=some o)(hne:d≠x):gF H x d=some o:=by rw[lW hne];exact h
def Flt(lo:Nat)(K:PySem.W.Frag)(C:Addr)(E:XK)(k:Int):List V->Hp->Prop:=fun vs H1=>vs.length<=sizeLine/\∀x,H1 x=none->iG K C k (.ref x::vs) (upd H1 x (cI lo x C none))
 (fun v H2=>v=.ax/\∃a fI dx,V.ref x=.ref a/\H2 a=some (cI lo a C (some dx))/\gH K C fI/\E (.ref C) (some dx) (gF H2 a)) E0
def nB(lo:Nat)(K:PySem.W.Frag)(C:Addr)(E:XK)(k:Int)(te:TE):TS:=fun _ σ H=>te σ H fun v H1=>Flt lo K C E k [v] H1
theorem eY(hc:X.calm=true)(hx:yg X E)(D:hX X.K X.mg x C a.da f)(G:ay X.prog X.w X.K X.mg X.base aW 2 f fd ["self","place"] (iG X.K C k))(hb:Binds X.K fd ["self","place"] [])(hr:bA 3 X.A)(he:PE X e te)
  (hg:Gl X x:=by rfl) (hdb:(x==("__debug__":Str))=false:=by decide) (hst:starEach [e] X.env=[(false,eval e X.env)]:=by rfl):
  PS X (.Raise (some (.Call (.Name x p) [e] [] pos)) none pos') (nB X.b8.heap.objs.size X.K C E k te):=fun pins s σ H Dn I h=>
 JX (C:=C) hc hx (Pe D.xc G hr hg D.at_ hb (aa he ag hst) hdb hst rfl) D.xc.is pins s σ H Dn I h
theorem eA{lo:Nat}{H1:Hp}{n:Int}(D:hX K mg x C a.da f)(h:Told K a E k n):Flt lo K C E k [.int n] H1:=
 ⟨by show 1<=sizeLine;decide,fun y hy=>⟨lo,y,f,n,rfl,aw,D.xc,D.nk,D.np,fun H' d h1 h2 h3=>⟨rfl,y,f,d,rfl,h1,D.xc,h C d _ ⟨D.xc.is,D.xg,D.sub,D.nk,D.np⟩ (Kh h2 h3)⟩⟩⟩
end
end Wale
end
section
set_option linter.all false
namespace Wm
open LsWale
theorem Ng{c:UInt8}{r:Bytes}(h:isLetter c=true):1<=(wordAt (c::r)).length:=by
 unfold wordAt
 split
 ·rename_i w hw
  have hm:=List.mem_of_find?_eq_some hw
  simp only[DIGITWORDS,List.map_cons,List.map_nil,List.mem_cons,List.not_mem_nil,or_false]at hm
  rcases hm with rfl|rfl|rfl|rfl|rfl<;>decide
 ·simp[h]
theorem IB{b w:Bytes}(h:b.take w.length=w):w.length<=b.length:=by
 have:=congrArg List.length h
 rw[List.length_take]at this
 lia
theorem P7(b:Bytes):(wordAt b).length<=b.length:=by
 unfold wordAt
 split
 ·rename_i w hw
  have hp:=List.find?_some hw
  simp only[Bool.and_eq_true,beq_iff_eq]at hp
  exact IB hp.1
 ·cases b with
  |nil=>simp
  |cons c r=>
   dsimp only
   split
   ·have:=(List.takeWhile_sublist (l:=r) isTail).length_le
    simp only[List.length_cons]
    lia
   ·simp
theorem sS(b:Bytes):(oneToken b).2<=b.length:=by
 unfold oneToken
 split
 ·simp
 ·rename_i c r
  split
  ·exact P7 _
  ·split
   ·split
    ·exact(List.takeWhile_sublist _).length_le
    ·simp
   ·split<;>simp
def cO:Tok->Bool
 | .done=>false
 | .bad _=>false
 |_=>true
theorem one_pos{b:Bytes}(h:cO (oneToken b).1=true):1<=(oneToken b).2:=by
 cases b with
 |nil=>simp[oneToken,cO]at h
 |cons c r=>
  unfold oneToken at h ⊢
  dsimp only at h ⊢
  by_cases hl:isLetter c=true
  ·rw[if_pos hl]
   exact Ng hl
  ·rw[if_neg hl]at h ⊢
   by_cases hd:isDigit c=true
   ·rw[if_pos hd]at h ⊢
    by_cases hn:isNumber ((c::r).takeWhile isDigit)=true
    ·rw[if_pos hn]
     simp[List.takeWhile_cons,hd]
    ·rw[if_neg hn]at h
     simp[cO]at h
   ·rw[if_neg hd]at h ⊢
    by_cases hs:SIGNS.contains c=true
    ·rw[if_pos hs]
     exact Nat.le_refl _
    ·rw[if_neg hs]at h
     simp[cO]at h
theorem oy:∀(f:Bool)(b:Bytes),blanks f b<=b.length
 |f,[]=>by cases f<;>simp[blanks]
 |false,c::r=>by
  have h1:=oy false r
  have h2:=oy true r
  simp only[blanks,List.length_cons]
  split
  ·lia
  ·split<;>lia
 |true,c::r=>by
  have h1:=oy false r
  have h2:=oy true r
  simp only[blanks,List.length_cons]
  split
  ·lia
  ·split<;>lia
def behind(t:Tok)(l:List Token):List Token:=match t with
 | .done=>[]
 | .bad _=>[]
 |_=>l
theorem xK(f p:Nat)(b:Bytes):tokensFrom (f+1) p b=⟨p+blanks false b,(oneToken (b.drop (blanks false b))).1⟩::
  behind (oneToken (b.drop (blanks false b))).1 (tokensFrom f (p+blanks false b+(oneToken (b.drop (blanks false b))).2) (b.drop (blanks false b+(oneToken (b.drop (blanks false b))).2))):=by
 rw[tokensFrom]
 cases (oneToken (b.drop (blanks false b))).1<;>rfl
theorem oC{t:Tok}{l:List Token}(h:cO t=true):behind t l=l:=by cases t<;>first|rfl|cases h
theorem mj{t:Tok}{l:List Token}(h:cO t=false):behind t l=[]:=by cases t<;>first|rfl|cases h
theorem BP:∀(f g p:Nat)(b:Bytes),b.length+1<=f->b.length+1<=g->tokensFrom f p b=tokensFrom g p b
 |0,g,p,b,h,_=>by lia
 |f+1,0,p,b,_,h=>by lia
 |f+1,g+1,p,b,h1,h2=>by
  rw[xK,xK]
  congr 1
  cases ht:cO (oneToken (b.drop (blanks false b))).1 with
  |false=>rw[mj ht,mj ht]
  |true=>
   rw[oC ht,oC ht]
   have hp:=one_pos ht
   have hl:=sS (b.drop (blanks false b))
   have hb:=oy false b
   rw[List.length_drop]at hl
   exact BP f g _ _ (by rw[List.length_drop];lia) (by rw[List.length_drop];lia)
def toks(b:Bytes)(p:Nat):List Token:=tokensFrom ((b.drop p).length+1) p (b.drop p)
def aS(b:Bytes)(p:Nat):Nat:=p+blanks false (b.drop p)
def ao(b:Bytes)(p:Nat):Tok:=(oneToken (b.drop (aS b p))).1
def az(b:Bytes)(p:Nat):Nat:=aS b p+(oneToken (b.drop (aS b p))).2
theorem O6(b:Bytes):tokensOf b=toks b 0:=rfl
theorem vP(b:Bytes)(p:Nat):toks b p=⟨aS b p,ao b p⟩::behind (ao b p) (toks b (az b p)):=by
 unfold toks
 rw[xK]
 have e:(b.drop p).drop (blanks false (b.drop p))=b.drop (aS b p):=by rw[List.drop_drop];rfl
 have e2:(b.drop p).drop (blanks false (b.drop p)+(oneToken (b.drop (aS b p))).2)=b.drop (az b p):=by
  rw[List.drop_drop];unfold az aS;rw[Nat.add_assoc]
 rw[e,e2]
 show _::behind (ao b p) _=_
 congr 1
 cases ht:cO (ao b p)with
 |false=>rw[mj ht,mj ht]
 |true=>
  rw[oC ht,oC ht]
  have hp:1<=(oneToken (b.drop (aS b p))).2:=one_pos ht
  have hl:=sS (b.drop (aS b p))
  rw[List.length_drop]at hl
  refine BP _ _ _ _ ?_ (Nat.le_refl _)
  rw[List.length_drop,List.length_drop]
  unfold az aS at *
  lia
theorem O5(b:Bytes)(p:Nat):p<=aS b p:=Nat.le_add_right _ _
theorem Gr{b:Bytes}{p:Nat}(h:p<=b.length):aS b p<=b.length:=by
 have:=oy false (b.drop p)
 rw[List.length_drop]at this
 unfold aS
 lia
theorem xS{b:Bytes}{p:Nat}(h:p<=b.length):az b p<=b.length:=by
 have h1:=Gr h
 have h2:=sS (b.drop (aS b p))
 rw[List.length_drop]at h2
 unfold az
 lia
theorem CB{b:Bytes}{p:Nat}(h:cO (ao b p)=true):p<az b p:=by
 have h1:=O5 b p
 have h2:1<=(oneToken (b.drop (aS b p))).2:=one_pos h
 unfold az
 lia
end Wm
end
section
set_option linter.all false
namespace Wm
open LsWale
def Lt{α:Type}(n:Nat)(r:Except Fault (α×St)):Prop:=∀x s,r=.ok (x,s)->s.ts.length<n
def Le{α:Type}(n:Nat)(r:Except Fault (α×St)):Prop:=∀x s,r=.ok (x,s)->s.ts.length<=n
theorem gm{α:Type}{n:Nat}{e:Fault}:Lt n (.error e:Except Fault (α×St)):=fun _ _ h=>by cases h
theorem PK{α:Type}{n:Nat}{e:Fault}:Le n (.error e:Except Fault (α×St)):=fun _ _ h=>by cases h
theorem Lt.le{α:Type}{n:Nat}{r:Except Fault (α×St)}(h:Lt n r):Le n r:=fun x s e=>Nat.le_of_lt (h x s e)
theorem jr{α:Type}(s:St):∃e,(wanted s:Except Fault α)=.error e:=by
 unfold wanted
 split<;>exact⟨_,rfl⟩
theorem iE{α:Type}{n:Nat}{s:St}:Lt n (wanted s:Except Fault (α×St)):=by
 obtain⟨e,h⟩:=jr (α:=α×St) s
 rw[h];exact gm
theorem eI{ε α β:Type}(a:α)(f:α->Except ε β):(Except.ok a>>=f)=f a:=rfl
theorem Lt.bind{α β:Type}{n:Nat}{r:Except Fault (α×St)}{f:α×St->Except Fault (β×St)}(h:∀x s,r=.ok (x,s)->Lt n (f (x,s))):Lt n (r>>=f):=by
 cases r with
 |error e=>exact gm
 |ok p=>obtain⟨x,s⟩:=p;exact h x s rfl
theorem Le.bind{α β:Type}{n:Nat}{r:Except Fault (α×St)}{f:α×St->Except Fault (β×St)}(h:∀x s,r=.ok (x,s)->Le n (f (x,s))):Le n (r>>=f):=by
 cases r with
 |error e=>exact PK
 |ok p=>obtain⟨x,s⟩:=p;exact h x s rfl
theorem a8{α β:Type}{r r':Except Fault (α×St)}{f g:α×St->Except Fault (β×St)}(h1:r=r')(h2:∀x s,r'=.ok (x,s)->f (x,s)=g (x,s)):(r>>=f)=(r'>>=g):=by
 subst h1
 cases r with
 |error e=>rfl
 |ok p=>obtain⟨x,s⟩:=p;exact h2 x s rfl
theorem DM(s:St):s.next.ts.length=s.ts.length-1:=by simp[St.next]
theorem aX{s:St}(h:s.ts≠[]):s.next.ts.length<s.ts.length:=by
 rw[DM]
 have:s.ts.length≠0:=fun q=>h (List.length_eq_zero_iff.mp q)
 lia
theorem bI{s:St}{w:String}(h:s.isWord w=true):s.ts≠[]:=by
 intro q;rw[St.isWord,q]at h;cases h
theorem fE{s:St}{c:Char}(h:s.isSign c=true):s.ts≠[]:=by
 intro q;rw[St.isSign,q]at h;cases h
def cJ(n:Nat)(r:Except Fault St):Prop:=∀s,r=.ok s->s.ts.length<n
theorem dA{c:Char}{s:St}:cJ s.ts.length (eatSign c s):=by
 intro t h
 unfold eatSign at h
 split at h
 ·rename_i hs;cases h;exact aX (fE hs)
 ·obtain⟨e,q⟩:=jr (α:=St) s;rw[q]at h;cases h
theorem G2{c:String}{s:St}:cJ s.ts.length (eatWord c s):=by
 intro t h
 unfold eatWord at h
 split at h
 ·rename_i hs;cases h;exact aX (bI hs)
 ·obtain⟨e,q⟩:=jr (α:=St) s;rw[q]at h;cases h
theorem g9{c:Char}{d:Nat}{s:St}:cJ s.ts.length (eatOpen c d s):=by
 intro t h
 unfold eatOpen at h
 split at h
 ·obtain⟨e,q⟩:=jr (α:=St) s;rw[q]at h;cases h
 ·rename_i hs
  split at h
  ·cases h
  ·cases h;exact aX (fE (by simpa using hs))
theorem pG{s:St}:Lt s.ts.length (anyName s):=by
 unfold anyName
 split
 ·rename_i h
  split
  ·intro x t e;cases e;exact aX (by rw[h];simp)
  ·exact iE
 ·exact iE
theorem nZ{l:List Bytes}{s:St}:Lt s.ts.length (oldName l s):=by
 unfold oldName
 refine Lt.bind fun x t e=>?_
 have:=pG x t e
 dsimp only
 split
 ·exact gm
 ·intro y u h;cases h;exact this
theorem i9{k m:Nat}{s:St}{l:List Bytes}:Lt s.ts.length (newName k m s l):=by
 unfold newName
 refine Lt.bind fun x t e=>?_
 have:=pG x t e
 dsimp only
 split
 ·exact gm
 ·split
  ·exact gm
  ·intro y u h;cases h;exact this
theorem vt{s:St}:Lt s.ts.length (markName s):=by
 unfold markName
 refine Lt.bind fun x t e=>?_
 have:=pG x t e
 dsimp only
 split
 ·intro y u h;cases h;exact this
 ·split
  ·exact gm
  ·intro y u h;cases h;exact this
theorem FD{s:St}:Lt s.ts.length (holdName s):=by
 unfold holdName
 refine Lt.bind fun x t e=>?_
 have:=pG x t e
 dsimp only
 split
 ·intro y u h;cases h;exact this
 ·split
  ·exact gm
  ·intro y u h;cases h;exact this
end Wm
end
section
set_option linter.all false
namespace Wm
open LsWale
def Lx:Level->Bool
 | .sumRest _=>true
 | .prodRest _=>true
 |_=>false
def Left(lv:Level)(n:Nat){α:Type}(r:Except Fault (α×St)):Prop:=if Lx lv=true then Le n r else Lt n r
theorem Lt.left{α:Type}{lv:Level}{n:Nat}{r:Except Fault (α×St)}(h:Lt n r):Left lv n r:=by
 unfold Left
 split
 ·exact h.le
 ·exact h
theorem Le.mono{α:Type}{m n:Nat}{r:Except Fault (α×St)}(h:Le m r)(l:m<=n):Le n r:=fun x s e=>Nat.le_trans (h x s e) l
theorem Le.lt{α:Type}{m n:Nat}{r:Except Fault (α×St)}(h:Le m r)(l:m<n):Lt n r:=fun x s e=>Nat.lt_of_le_of_lt (h x s e) l
theorem Lt.mono{α:Type}{m n:Nat}{r:Except Fault (α×St)}(h:Lt m r)(l:m<=n):Lt n r:=fun x s e=>Nat.lt_of_lt_of_le (h x s e) l
theorem cJ.bind{β:Type}{n:Nat}{r:Except Fault St}{f:St->Except Fault (β×St)}(h:∀s,r=.ok s->Lt n (f s)):Lt n (r>>=f):=by
 cases r with
 |error e=>exact gm
 |ok s=>exact h s rfl
theorem iy{α:Type}{n:Nat}{x:α}{s:St}(h:s.ts.length<=n):Le n (.ok (x,s)):=fun y t e=>by cases e;exact h
theorem cN{α:Type}{n:Nat}{x:α}{s:St}(h:s.ts.length<n):Lt n (.ok (x,s)):=fun y t e=>by cases e;exact h
theorem jT{s:St}{c c':Char}(h:(s.isSign c||s.isSign c')=true):s.ts≠[]:=by
 rcases Bool.or_eq_true_iff.mp h with q|q
 ·exact fE q
 ·exact fE q
theorem fV:∀(f:Nat)(lv:Level)(d:Nat)(s:St),Left lv s.ts.length (sumAt f lv d s)
 |0,lv,d,s=>by rw[sumAt];exact iE.left
 |f+1,.sum,d,s=>by
  rw[sumAt]
  refine Lt.left (Lt.bind fun x t e=>?_)
  have h1:Lt s.ts.length (sumAt f .prod d s):=fV f .prod d s
  have h2:Le t.ts.length (sumAt f (.sumRest x) d t):=fV f (.sumRest x) d t
  exact h2.lt (h1 x t e)
 |f+1,.prod,d,s=>by
  rw[sumAt]
  refine Lt.left (Lt.bind fun x t e=>?_)
  have h1:Lt s.ts.length (sumAt f .fact d s):=fV f .fact d s
  have h2:Le t.ts.length (sumAt f (.prodRest x) d t):=fV f (.prodRest x) d t
  exact h2.lt (h1 x t e)
 |f+1,.sumRest a,d,s=>by
  rw[sumAt]
  show Le _ _
  split
  ·rename_i h
   refine Le.bind fun x t e=>?_
   have h0:=aX (jT h)
   have h1:Lt s.next.ts.length (sumAt f .prod d s.next):=fV f .prod d s.next
   refine Le.mono (fV f (.sumRest _) d t) ?_
   have:=h1 x t e
   show t.ts.length<=_
   lia
  ·exact iy (Nat.le_refl _)
 |f+1,.prodRest a,d,s=>by
  rw[sumAt]
  show Le _ _
  split
  ·rename_i h
   refine Le.bind fun x t e=>?_
   have h0:=aX (jT h)
   have h1:Lt s.next.ts.length (sumAt f .fact d s.next):=fV f .fact d s.next
   refine Le.mono (fV f (.prodRest _) d t) ?_
   have:=h1 x t e
   show t.ts.length<=_
   lia
  ·exact iy (Nat.le_refl _)
 |f+1,.fact,d,s=>by
  rw[sumAt]
  show Lt _ _
  split
  ·rename_i h;exact cN (aX (by rw[h];simp))
  ·rename_i h
   refine Lt.bind fun x t e=>?_
   exact cN (nZ x t e)
  ·refine cJ.bind fun t e=>?_
   have h0:=g9 t e
   refine Lt.bind fun x u e1=>?_
   have h1:Lt t.ts.length (sumAt f .sum (d+1) t):=fV f .sum (d+1) t
   have h1:=h1 x u e1
   refine cJ.bind fun v e2=>?_
   have h2:=dA v e2
   refine cN ?_
   dsimp only at h2 ⊢
   lia
theorem hZ(f d:Nat)(s:St):Lt s.ts.length (sumAt f .sum d s):=fV f .sum d s
theorem vA(f d:Nat)(s:St):Lt s.ts.length (sumAt f .prod d s):=fV f .prod d s
theorem vo(f d:Nat)(s:St):Lt s.ts.length (sumAt f .fact d s):=fV f .fact d s
def bc:Level->Nat->Nat
 | .sum,n=>3*n+3
 | .prod,n=>3*n+2
 |_,n=>3*n+1
theorem gv{β:Type}{r:Except Fault St}{f g:St->Except Fault (β×St)}(h:∀s,r=.ok s->f s=g s):(r>>=f)=(r>>=g):=by
 cases r with
 |error e=>rfl
 |ok s=>exact h s rfl
theorem fw:∀(f g:Nat)(lv:Level)(d:Nat)(s:St),bc lv s.ts.length<=f->bc lv s.ts.length<=g->sumAt f lv d s=sumAt g lv d s
 |0,_,lv,d,s,h,_=>by cases lv<;>simp[bc]at h
 |f+1,0,lv,d,s,_,h=>by cases lv<;>simp[bc]at h
 |f+1,g+1,.sum,d,s,h1,h2=>by
  rw[sumAt,sumAt]
  simp only[bc]at h1 h2
  refine a8 (fw f g .prod d s (by simp only[bc];lia) (by simp only[bc];lia)) fun x t e=>?_
  have:=vA g d s x t e
  exact fw f g _ d t (by simp only[bc];lia) (by simp only[bc];lia)
 |f+1,g+1,.prod,d,s,h1,h2=>by
  rw[sumAt,sumAt]
  simp only[bc]at h1 h2
  refine a8 (fw f g .fact d s (by simp only[bc];lia) (by simp only[bc];lia)) fun x t e=>?_
  have:=vo g d s x t e
  exact fw f g _ d t (by simp only[bc];lia) (by simp only[bc];lia)
 |f+1,g+1,.sumRest a,d,s,h1,h2=>by
  rw[sumAt,sumAt]
  simp only[bc]at h1 h2
  split
  ·rename_i h
   have h0:=aX (jT h)
   refine a8 (fw f g .prod d s.next (by simp only[bc];lia) (by simp only[bc];lia)) fun x t e=>?_
   have:=vA g d s.next x t e
   exact fw f g _ d t (by simp only[bc];lia) (by simp only[bc];lia)
  ·rfl
 |f+1,g+1,.prodRest a,d,s,h1,h2=>by
  rw[sumAt,sumAt]
  simp only[bc]at h1 h2
  split
  ·rename_i h
   have h0:=aX (jT h)
   refine a8 (fw f g .fact d s.next (by simp only[bc];lia) (by simp only[bc];lia)) fun x t e=>?_
   have:=vo g d s.next x t e
   exact fw f g _ d t (by simp only[bc];lia) (by simp only[bc];lia)
  ·rfl
 |f+1,g+1,.fact,d,s,h1,h2=>by
  rw[sumAt,sumAt]
  simp only[bc]at h1 h2
  split
  ·rfl
  ·rfl
  ·refine gv fun t e=>?_
   have h0:=g9 t e
   exact a8 (fw f g .sum (d+1) t (by simp only[bc];lia) (by simp only[bc];lia)) fun x u e1=>rfl
def bg(lv:Level)(d:Nat)(s:St):Except Fault (Sum×St):=sumAt (3*s.ts.length+3) lv d s
theorem Ls(lv:Level)(n:Nat):bc lv n<=3*n+3:=by cases lv<;>simp[bc]
theorem fD{f d:Nat}{lv:Level}{s:St}(h:bc lv s.ts.length<=f):sumAt f lv d s=bg lv d s:=fw _ _ _ _ _ h (Ls _ _)
theorem A2(d:Nat)(s:St):Lt s.ts.length (bg .sum d s):=hZ _ d s
theorem MC(d:Nat)(s:St):bg .sum d s=bg .prod d s>>=fun x=>bg (.sumRest x.1) d x.2:=by
 show sumAt (3*s.ts.length+3) .sum d s=_
 rw[sumAt]
 refine a8 (fD (by simp only[bc];lia)) fun x t e=>?_
 have:=vA _ d s x t e
 exact fD (by simp only[bc];lia)
theorem PN(d:Nat)(s:St):bg .prod d s=bg .fact d s>>=fun x=>bg (.prodRest x.1) d x.2:=by
 show sumAt (3*s.ts.length+3) .prod d s=_
 rw[sumAt]
 refine a8 (fD (by simp only[bc];lia)) fun x t e=>?_
 have:=vo _ d s x t e
 exact fD (by simp only[bc];lia)
theorem Bt(a:Sum)(d:Nat)(s:St):bg (.sumRest a) d s=if(s.isSign '+'||s.isSign '-')=true then
  (bg .prod d s.next>>=fun x=>bg (.sumRest (.op (if s.isSign '+'=true then 43 else 45) s.place a x.1)) d x.2)else .ok (a,s):=by
 show sumAt (3*s.ts.length+3) (.sumRest a) d s=_
 rw[sumAt]
 split
 ·rename_i h
  have h0:=aX (jT h)
  refine a8 (fD (by simp only[bc];lia)) fun x t e=>?_
  have:=vA _ d s.next x t e
  exact fD (by simp only[bc];lia)
 ·rfl
theorem En(a:Sum)(d:Nat)(s:St):bg (.prodRest a) d s=if(s.isSign '*'||s.isSign '/')=true then
  (bg .fact d s.next>>=fun x=>bg (.prodRest (.op (if s.isSign '*'=true then 42 else 47) s.place a x.1)) d x.2)else .ok (a,s):=by
 show sumAt (3*s.ts.length+3) (.prodRest a) d s=_
 rw[sumAt]
 split
 ·rename_i h
  have h0:=aX (jT h)
  refine a8 (fD (by simp only[bc];lia)) fun x t e=>?_
  have:=vo _ d s.next x t e
  exact fD (by simp only[bc];lia)
 ·rfl
theorem ML{d p n:Nat}{s:St}{r:List Token}(h:s.ts=⟨p,.num n⟩::r):bg .fact d s=.ok (.num n,s.next):=by
 show sumAt (3*s.ts.length+3) .fact d s=_
 rw[sumAt]
 split
 ·rename_i q;rw[h]at q;cases q;rfl
 ·rename_i q;rw[h]at q;cases q
 ·rename_i q _;exact absurd h (q p n r)
theorem Bq{d p:Nat}{w:Bytes}{s:St}{r:List Token}(h:s.ts=⟨p,.word w⟩::r):bg .fact d s=oldName s.env.lets s>>=fun x=>.ok (.name p x.1,x.2):=by
 show sumAt (3*s.ts.length+3) .fact d s=_
 rw[sumAt]
 split
 ·rename_i q;rw[h]at q;cases q
 ·rename_i q;rw[h]at q;cases q;rfl
 ·rename_i q;exact absurd h (q p w r)
theorem EW{d:Nat}{s:St}(h1:∀p n r,s.ts≠⟨p,.num n⟩::r)(h2:∀p w r,s.ts≠⟨p,.word w⟩::r):
  bg .fact d s=eatOpen '(' d s>>=fun t=>bg .sum (d+1) t>>=fun x=>eatSign ')' x.2>>=fun u=>.ok (x.1,u):=by
 show sumAt (3*s.ts.length+3) .fact d s=_
 rw[sumAt]
 split
 ·rename_i q;exact absurd q (h1 _ _ _)
 ·rename_i q;exact absurd q (h2 _ _ _)
 ·refine gv fun t e=>?_
  have h0:=g9 t e
  exact a8 (fD (by simp only[bc];lia)) fun x u e1=>rfl
end Wm
end
section
set_option linter.all false
namespace Wm
open LsWale
theorem iF{α β:Type}{r:Except Fault α}{f:α->β}{y:β}(h:r.map f=.ok y):∃x,r=.ok x/\f x=y:=by
 cases r with
 |error e=>cases h
 |ok x=>cases h;exact⟨x,rfl,rfl⟩
theorem Lt.map{α β:Type}{n:Nat}{r:Except Fault (α×St)}{f:α×St->β×St}(h:Lt n r)(hf:∀x s,(f (x,s)).2=s):Lt n (r.map f):=by
 intro y t e
 obtain⟨⟨x,s⟩,e1,e2⟩:=iF e
 have:=h x s e1
 have q:=hf x s
 rw[e2]at q
 simp only at q
 rw[q];exact this
theorem yC(f d:Nat)(s:St):Le s.ts.length (reachAt f d s):=by
 unfold reachAt
 split
 ·rename_i h
  have h0:=aX (bI h)
  split
  ·rename_i h1
   have h2:=aX (bI h1)
   exact iy (by lia)
  ·split
   ·rename_i h1
    have h2:=aX (bI h1)
    refine Le.bind fun x t e=>iy ?_
    have:=hZ f d _ x t e
    dsimp only;lia
   ·refine(cJ.bind (n:=s.ts.length) fun t e=>?_).le
    have h1:=G2 t e
    refine Lt.bind fun x u e2=>cN ?_
    have:=vt x u e2
    dsimp only;lia
 ·split
  ·refine Le.bind fun x t e=>iy ?_
   have:=hZ f d _ x t e
   dsimp only;lia
  ·exact iy (Nat.le_refl _)
theorem Gm{f g d:Nat}{s:St}(h1:3*s.ts.length+3<=f)(h2:3*s.ts.length+3<=g):reachAt f d s=reachAt g d s:=by
 unfold reachAt
 split
 ·rename_i h
  have h0:=aX (bI h)
  split
  ·rfl
  ·split
   ·rename_i h3
    have h4:=aX (bI h3)
    exact a8 (fw _ _ _ _ _ (by simp only[bc];lia) (by simp only[bc];lia)) fun _ _ _=>rfl
   ·rfl
 ·split
  ·exact a8 (fw _ _ _ _ _ (by simp only[bc];lia) (by simp only[bc];lia)) fun _ _ _=>rfl
  ·rfl
def jq(d:Nat)(s:St):Except Fault (Reach×St):=reachAt (3*s.ts.length+3) d s
theorem Ny{f d:Nat}{s:St}(h:3*s.ts.length+3<=f):reachAt f d s=jq d s:=Gm h (Nat.le_refl _)
theorem uT(d:Nat)(s:St):jq d s=if s.isWord "to"=true then(
  if s.next.isWord "end"=true then .ok (.to_ .row,s.next.next)
  else if s.next.isWord "last"=true then(bg .sum d s.next.next>>=fun x=>.ok (.to_ (.last x.1),x.2))
  else(eatWord "mark" s.next>>=fun t=>markName t>>=fun x=>.ok (.to_ (.mark x.1),x.2)))
 else if s.sums=true then(bg .sum d s>>=fun x=>.ok (.times x.1,x.2))
 else .ok (.once,s):=by
 unfold jq reachAt
 split
 ·rename_i h
  have h0:=aX (bI h)
  split
  ·rfl
  ·split
   ·rename_i h3
    have h4:=aX (bI h3)
    exact a8 (fD (by simp only[bc];lia)) fun _ _ _=>rfl
   ·rfl
 ·split
  ·exact a8 (fD (by simp only[bc];lia)) fun _ _ _=>rfl
  ·rfl
theorem CD{s:St}:Lt s.ts.length (wideAt s):=by
 unfold wideAt
 split
 ·rename_i h
  split
  ·exact cN (aX (by rw[h];simp))
  ·exact gm
 ·exact iE
theorem Hd(s:St):Lt s.ts.length (unitAt s):=by
 unfold unitAt
 split
 ·rename_i h
  have h0:s.next.ts.length<s.ts.length:=aX (by rw[h];simp)
  split
  ·exact cN h0
  ·split
   ·refine Lt.bind fun n t e=>?_
    have h1:=CD n t e
    refine cJ.bind fun u e1=>?_
    have h2:=dA u e1
    refine Lt.bind fun m v e2=>cN ?_
    have h3:=CD m v e2
    dsimp only at h2 ⊢
    lia
   ·split
    ·refine Lt.bind fun x t e=>cN ?_
     have:=FD x t e
     dsimp only;lia
    ·refine Lt.bind fun x t e=>cN ?_
     exact nZ x t e
 ·exact iE
theorem Hs{s:St}{g:Except Fault (Lone×St)}(h:loneAt s=some g):Lt s.ts.length g:=by
 unfold loneAt at h
 split at h
 ·rename_i w;have h0:=aX (bI w)
  cases h;exact(FD.mono (Nat.le_of_lt h0)).map fun _ _=>rfl
 ·split at h
  ·rename_i w;have h0:=aX (bI w)
   cases h;exact(nZ.mono (Nat.le_of_lt h0)).map fun _ _=>rfl
  ·split at h
   ·rename_i w;have h0:=aX (bI w)
    cases h;exact(vt.mono (Nat.le_of_lt h0)).map fun _ _=>rfl
   ·split at h
    ·rename_i w;have h0:=aX (bI w)
     cases h;exact(vt.mono (Nat.le_of_lt h0)).map fun _ _=>rfl
    ·split at h
     ·rename_i w;have h0:=aX (bI w)
      cases h;exact(vt.mono (Nat.le_of_lt h0)).map fun _ _=>rfl
     ·split at h
      ·rename_i w;have h0:=aX (bI w)
       cases h;exact cN h0
      ·split at h
       ·rename_i w;have h0:=aX (bI w)
        cases h;exact cN h0
       ·cases h
def gw(I:Nat->St->Except Fault (Items×St))(R:Nat->St->Except Fault (Reach×St))(d:Nat)(s:St):Except Fault ((Items->Items)×St):=
 match loneAt s with
 |some g=>g.map fun(y:Lone×St)=>(Items.lone s.place y.1,y.2)
 |none=>if s.isSign '('=true then
   (eatOpen '(' d s>>=fun t=>I (d+1) t>>=fun l=>eatSign ')' l.2>>=fun u=>R d u>>=fun r=>.ok (Items.group s.place l.1 r.1,r.2))
  else(unitAt s>>=fun u=>R d u.2>>=fun r=>.ok (Items.one s.place u.1 r.1,r.2))
def wg(T:Nat->St->Except Fault ((Items->Items)×St))(I:Nat->St->Except Fault (Items×St))(d:Nat)(s:St):Except Fault (Items×St):=
 T d s>>=fun x=>if x.2.isSign ','=true then(I d x.2.next>>=fun l=>.ok (x.1 l.1,l.2))else .ok (x.1 .nil,x.2)
theorem rV(f d:Nat)(s:St):itemsAt (f+1) d s=wg (gw (itemsAt f) (reachAt f)) (itemsAt f) d s:=by
 rw[itemsAt];rfl
theorem wX{I:Nat->St->Except Fault (Items×St)}{R:Nat->St->Except Fault (Reach×St)}(hI:∀d s,Le s.ts.length (I d s))(hR:∀d s,Le s.ts.length (R d s))(d:Nat)(s:St):Lt s.ts.length (gw I R d s):=by
 unfold gw
 split
 ·rename_i g h;exact(Hs h).map fun _ _=>rfl
 ·split
  ·refine cJ.bind fun t e=>?_
   have h1:=g9 t e
   refine Lt.bind fun l u e1=>?_
   have h2:=hI _ t l u e1
   refine cJ.bind fun v e2=>?_
   have h3:=dA v e2
   refine Lt.bind fun r z e3=>cN ?_
   have h4:=hR _ v r z e3
   dsimp only at h3 ⊢
   lia
  ·refine Lt.bind fun u t e=>?_
   have h1:=Hd s u t e
   refine Lt.bind fun r z e3=>cN ?_
   have h4:=hR _ t r z e3
   dsimp only
   lia
theorem iT:∀(f d:Nat)(s:St),Lt s.ts.length (itemsAt f d s)
 |0,d,s=>by rw[itemsAt];exact iE
 |f+1,d,s=>by
  rw[rV]
  refine Lt.bind fun x t e=>?_
  have h1:=wX (fun d s=>(iT f d s).le) (fun d s=>yC f d s) d s x t e
  dsimp only
  split
  ·rename_i h
   have h0:=aX (fE h)
   refine Lt.bind fun l u e1=>cN ?_
   have:=iT f d _ l u e1
   dsimp only at this ⊢;lia
  ·exact cN h1
theorem EX{I I':Nat->St->Except Fault (Items×St)}{R R':Nat->St->Except Fault (Reach×St)}{d:Nat}{s:St}
  (hI:∀d t,t.ts.length<s.ts.length->I d t=I' d t) (hL:∀d t,Le t.ts.length (I' d t)) (hR:∀d t,t.ts.length<s.ts.length->R d t=R' d t):gw I R d s=gw I' R' d s:=by
 unfold gw
 split
 ·rfl
 ·split
  ·refine gv fun t e=>?_
   have h1:=g9 t e
   refine a8 (hI _ _ h1) fun l u e1=>?_
   have h2:=hL _ t l u e1
   refine gv fun v e2=>?_
   have h3:=dA v e2
   dsimp only at h3
   exact a8 (hR _ _ (by lia)) fun _ _ _=>rfl
  ·refine a8 rfl fun u t e=>?_
   exact a8 (hR _ _ (Hd s u t e)) fun _ _ _=>rfl
theorem r8:∀(f g d:Nat)(s:St),3*s.ts.length+1<=f->3*s.ts.length+1<=g->itemsAt f d s=itemsAt g d s
 |0,_,_,_,h,_=>by lia
 |_+1,0,_,_,_,h=>by lia
 |f+1,g+1,d,s,h1,h2=>by
  rw[rV,rV]
  unfold wg
  refine a8 (EX (fun d t ht=>r8 f g d t (by lia) (by lia)) (fun d t=>(iT g d t).le) fun d t ht=>Gm (by lia) (by lia)) fun x t e=>?_
  have h3:=wX (fun d s=>(iT g d s).le) (fun d s=>yC g d s) d s x t e
  dsimp only
  split
  ·rename_i h
   have h0:=aX (fE h)
   exact a8 (r8 f g d _ (by lia) (by lia)) fun _ _ _=>rfl
  ·rfl
def cU(d:Nat)(s:St):Except Fault (Items×St):=itemsAt (3*s.ts.length+1) d s
theorem uD{f d:Nat}{s:St}(h:3*s.ts.length+1<=f):itemsAt f d s=cU d s:=r8 _ _ _ _ h (Nat.le_refl _)
theorem uZ(d:Nat)(s:St):Lt s.ts.length (cU d s):=iT _ d s
def fK(d:Nat)(s:St):Except Fault ((Items->Items)×St):=gw cU jq d s
theorem zD(d:Nat)(s:St):Lt s.ts.length (fK d s):=wX (fun d s=>(uZ d s).le) (fun d s=>yC _ d s) d s
theorem xp(d:Nat)(s:St):cU d s=fK d s>>=fun x=>if x.2.isSign ','=true then(cU d x.2.next>>=fun l=>.ok (x.1 l.1,l.2))else .ok (x.1 .nil,x.2):=by
 show itemsAt (3*s.ts.length+1) d s=_
 rw[rV]
 unfold wg
 refine a8 (EX (fun d t ht=>uD (by lia)) (fun d t=>(uZ d t).le) fun d t ht=>Ny (by lia)) fun x t e=>?_
 have h3:=zD d s x t e
 dsimp only
 split
 ·rename_i h
  have h0:=aX (fE h)
  exact a8 (uD (by lia)) fun _ _ _=>rfl
 ·rfl
end Wm
end
section
set_option linter.all false
namespace Wm
open LsWale
def l9(s:St):Option Bool:=if s.next.isWord "rs"=true then some true else if s.next.isWord "ws"=true then some false else none
def rowAt(s:St):St:=if(l9 s).isSome=true then s.next.next else s.next
theorem Cn(s:St):(rowAt s).ts.length<=s.next.ts.length:=by
 unfold rowAt
 split
 ·rw[DM s.next];lia
 ·exact Nat.le_refl _
def fg(S:Nat->St->Except Fault (Sum×St))(I:Nat->St->Except Fault (Items×St))(T:Nat->St->Except Fault (Stats×St))(d:Nat)(s:St):Option (Except Fault ((Stats->Stats)×St)):=
 if s.isWord "on"=true then some
  (S d s.next>>=fun x=>eatSign ';' (if x.2.isWord "round"=true then x.2.next else x.2)>>=fun t=>.ok (.on s.place x.1 (x.2.isWord "round"),t))
 else if s.isWord "row"=true then some
  (I d (rowAt s)>>=fun x=>eatSign ';' x.2>>=fun t=>.ok (.row s.place (l9 s) x.1,t))
 else if(s.isWord "repeat"||s.isWord "until")=true then some
  (S d s.next>>=fun x=>eatOpen '{' d x.2>>=fun t=>T (d+1) t>>=fun i=>eatSign '}' i.2>>=fun u=>
   .ok (fun r=>if s.isWord "repeat"=true then .again s.place x.1 i.1 r else .until_ s.place x.1 i.1 r,u))
 else if s.isWord "work"=true then some
  (oldName s.env.blocks s.next>>=fun x=>if x.2.sums=true then(S d x.2>>=fun y=>eatSign ';' y.2>>=fun t=>.ok (.work s.place x.1 (some y.1),t))
   else(eatSign ';' x.2>>=fun t=>.ok (.work s.place x.1 none,t)))
 else if s.isWord "off"=true then some (eatSign ';' s.next>>=fun t=>.ok (.off s.place,t))
 else none
def og(U:Nat->St->Option (Except Fault ((Stats->Stats)×St)))(T:Nat->St->Except Fault (Stats×St))(d:Nat)(s:St):Except Fault (Stats×St):=
 match U d s with
 |some g=>g>>=fun x=>T d x.2>>=fun r=>.ok (x.1 r.1,r.2)
 |none=>.ok (.nil,s)
theorem bN{α β γ:Type}(r:Except Fault α)(f:α->Except Fault β)(g:β->Except Fault γ):(r>>=f)>>=g=r>>=fun x=>f x>>=g:=by
 cases r<;>rfl
theorem pO(f d:Nat)(s:St):statsAt (f+1) d s=og (fg (sumAt f .sum) (itemsAt f) (statsAt f)) (statsAt f) d s:=by
 rw[statsAt]
 unfold og fg
 dsimp only
 split
 ·simp only[bN,eI];rfl
 ·split
  ·simp only[bN,eI];rfl
  ·split
   ·simp only[bN,eI]
    refine a8 rfl fun x t e=>?_
    refine gv fun u e=>?_
    refine a8 rfl fun y t e=>?_
    refine gv fun v e=>?_
    refine a8 rfl fun z t e=>?_
    split<;>rfl
   ·split
    ·simp only[bN,eI]
     refine a8 rfl fun x t e=>?_
     dsimp only
     split
     ·simp only[bN,eI];rfl
     ·simp only[bN,eI];rfl
    ·split
     ·simp only[bN,eI];rfl
     ·rfl
theorem xQ{S:Nat->St->Except Fault (Sum×St)}{I:Nat->St->Except Fault (Items×St)}{T:Nat->St->Except Fault (Stats×St)}(hS:∀d s,Le s.ts.length (S d s))(hI:∀d s,Le s.ts.length (I d s))
  (hT:∀d s,Le s.ts.length (T d s)) {d:Nat} {s:St} {g:Except Fault ((Stats->Stats)×St)} (h:fg S I T d s=some g):Lt s.ts.length g:=by
 unfold fg at h
 split at h
 ·rename_i w;have h0:=aX (bI w)
  cases h
  refine Lt.bind fun x t e=>cJ.bind fun u e2=>cN ?_
  have h1:=hS _ _ x t e
  have h2:=dA u e2
  dsimp only at h2
  split at h2
  ·rename_i q;have:=aX (bI q);lia
  ·lia
 ·split at h
  ·rename_i w;have h0:=aX (bI w)
   cases h
   refine Lt.bind fun x t e=>cJ.bind fun u e2=>cN ?_
   have h1:=hI _ _ x t e
   have h2:=dA u e2
   dsimp only at h2
   have h3:=Cn s
   lia
  ·split at h
   ·rename_i w
    have h0:s.next.ts.length<s.ts.length:=by
     rcases Bool.or_eq_true_iff.mp w with q|q
     ·exact aX (bI q)
     ·exact aX (bI q)
    cases h
    refine Lt.bind fun x t e=>cJ.bind fun u e2=>Lt.bind fun i v e3=>cJ.bind fun z e4=>cN ?_
    have h1:=hS _ _ x t e
    have h2:=g9 u e2
    have h3:=hT _ _ i v e3
    have h4:=dA z e4
    dsimp only at h2 h4
    lia
   ·split at h
    ·rename_i w;have h0:=aX (bI w)
     cases h
     refine Lt.bind fun x t e=>?_
     have h1:=nZ x t e
     dsimp only
     split
     ·refine Lt.bind fun y u e2=>cJ.bind fun v e3=>cN ?_
      have h2:=hS _ _ y u e2
      have h3:=dA v e3
      dsimp only at h3
      lia
     ·refine cJ.bind fun v e3=>cN ?_
      have h3:=dA v e3
      lia
    ·split at h
     ·rename_i w;have h0:=aX (bI w)
      cases h
      refine cJ.bind fun v e3=>cN ?_
      have h3:=dA v e3
      lia
     ·cases h
theorem nG:∀(f d:Nat)(s:St),Le s.ts.length (statsAt f d s)
 |0,d,s=>by rw[statsAt];exact iE.le
 |f+1,d,s=>by
  rw[pO]
  unfold og
  split
  ·rename_i g h
   refine Le.bind fun x t e=>Le.bind fun r u e2=>iy ?_
   have h1:=xQ (fun d s=>(hZ f d s).le) (fun d s=>(iT f d s).le) (fun d s=>nG f d s) h x t e
   have h2:=nG f d t r u e2
   dsimp only
   lia
  ·exact iy (Nat.le_refl _)
theorem E2{S S':Nat->St->Except Fault (Sum×St)}{I I':Nat->St->Except Fault (Items×St)}{T T':Nat->St->Except Fault (Stats×St)}{d:Nat}{s:St}
  (hS:∀d t,t.ts.length<s.ts.length->S d t=S' d t) (hI:∀d t,t.ts.length<s.ts.length->I d t=I' d t) (hT:∀d t,t.ts.length<s.ts.length->T d t=T' d t)
  (lS:∀d s,Le s.ts.length (S' d s)):fg S I T d s=fg S' I' T' d s:=by
 unfold fg
 split
 ·rename_i w;have h0:=aX (bI w)
  rw[hS _ _ h0]
 ·split
  ·rename_i w;have h0:=aX (bI w)
   have h3:=Cn s
   rw[hI _ _ (by lia)]
  ·split
   ·rename_i w
    have h0:s.next.ts.length<s.ts.length:=by
     rcases Bool.or_eq_true_iff.mp w with q|q
     ·exact aX (bI q)
     ·exact aX (bI q)
    refine congrArg some (a8 (hS _ _ h0) fun x t e=>gv fun u e2=>?_)
    have h1:=lS _ _ x t e
    have h2:=g9 u e2
    dsimp only at h2
    exact a8 (hT _ _ (by lia)) fun _ _ _=>rfl
   ·split
    ·rename_i w;have h0:=aX (bI w)
     refine congrArg some (a8 rfl fun x t e=>?_)
     have h1:=nZ x t e
     dsimp only
     split
     ·exact a8 (hS _ _ (by lia)) fun _ _ _=>rfl
     ·rfl
    ·rfl
theorem tq:∀(f g d:Nat)(s:St),3*s.ts.length+1<=f->3*s.ts.length+1<=g->statsAt f d s=statsAt g d s
 |0,_,_,_,h,_=>by lia
 |_+1,0,_,_,_,h=>by lia
 |f+1,g+1,d,s,h1,h2=>by
  rw[pO,pO]
  unfold og
  rw[E2 (S':=sumAt g .sum) (I':=itemsAt g) (T':=statsAt g) (fun d t ht=>fw f g _ d t (by simp only[bc];lia) (by simp only[bc];lia)) (fun d t ht=>r8 f g d t (by lia) (by lia))
   (fun d t ht=>tq f g d t (by lia) (by lia)) fun d s=>(hZ g d s).le]
  split
  ·rename_i q h
   refine a8 rfl fun x t e=>?_
   have h3:=xQ (fun d s=>(hZ g d s).le) (fun d s=>(iT g d s).le) (fun d s=>nG g d s) h x t e
   exact a8 (tq f g d t (by lia) (by lia)) fun _ _ _=>rfl
  ·rfl
def cS(d:Nat)(s:St):Except Fault (Stats×St):=statsAt (3*s.ts.length+1) d s
theorem uq{f d:Nat}{s:St}(h:3*s.ts.length+1<=f):statsAt f d s=cS d s:=tq _ _ _ _ h (Nat.le_refl _)
theorem Hc(d:Nat)(s:St):Le s.ts.length (cS d s):=nG _ d s
def eM(d:Nat)(s:St):Option (Except Fault ((Stats->Stats)×St)):=fg (bg .sum) cU cS d s
theorem Dp{d:Nat}{s:St}{g:Except Fault ((Stats->Stats)×St)}(h:eM d s=some g):Lt s.ts.length g:=
 xQ (fun d s=>(A2 d s).le) (fun d s=>(uZ d s).le) (fun d s=>Hc d s) h
theorem yG(d:Nat)(s:St):cS d s=match eM d s with
  |some g=>g>>=fun x=>cS d x.2>>=fun r=>.ok (x.1 r.1,r.2)
  |none=>.ok (.nil,s):=by
 show statsAt (3*s.ts.length+1) d s=_
 rw[pO]
 unfold og
 rw[E2 (S':=bg .sum) (I':=cU) (T':=cS) (fun d t ht=>fD (by simp only[bc];lia)) (fun d t ht=>uD (by lia)) (fun d t ht=>uq (by lia)) fun d s=>(A2 d s).le]
 show(match eM d s with|some g=>_|none=>_)=_
 cases h:eM d s with
 |none=>rfl
 |some g=>
  dsimp only
  refine a8 rfl fun x t e=>?_
  have h3:=Dp h x t e
  exact a8 (uq (by dsimp only;lia)) fun _ _ _=>rfl
end Wm
end
section
set_option linter.all false
namespace Wm
open LsWale
theorem vI:∀(f m:Nat)(l:List Bytes)(s:St),Lt s.ts.length (namesAt f m l s)
 |0,m,l,s=>by rw[namesAt];exact iE
 |f+1,m,l,s=>by
  rw[namesAt]
  refine Lt.bind fun x t e=>?_
  have h1:=i9 x t e
  dsimp only
  split
  ·rename_i h
   have h0:=aX (fE h)
   exact(vI f m _ t.next).mono (by lia)
  ·exact cN h1
theorem zk:∀(f g m:Nat)(l:List Bytes)(s:St),s.ts.length+1<=f->s.ts.length+1<=g->namesAt f m l s=namesAt g m l s
 |0,_,_,_,_,h,_=>by lia
 |_+1,0,_,_,_,_,h=>by lia
 |f+1,g+1,m,l,s,h1,h2=>by
  rw[namesAt,namesAt]
  refine a8 rfl fun x t e=>?_
  have h3:=i9 x t e
  dsimp only
  split
  ·rename_i h
   have h0:=aX (fE h)
   exact zk f g m _ t.next (by lia) (by lia)
  ·rfl
def jR(m:Nat)(l:List Bytes)(s:St):Except Fault (List Bytes×St):=namesAt (s.ts.length+1) m l s
theorem B5{f m:Nat}{l:List Bytes}{s:St}(h:s.ts.length+1<=f):namesAt f m l s=jR m l s:=zk _ _ _ _ _ h (Nat.le_refl _)
theorem MJ(m:Nat)(l:List Bytes)(s:St):jR m l s=newName l.length m s l>>=fun x=>if x.2.isSign ','=true then jR m (l++[x.1]) x.2.next else .ok (l++[x.1],x.2):=by
 show namesAt (s.ts.length+1) m l s=_
 rw[namesAt]
 refine a8 rfl fun x t e=>?_
 have h3:=i9 x t e
 dsimp only
 split
 ·rename_i h
  have h0:=aX (fE h)
  exact B5 (by lia)
 ·rfl
theorem uX:∀(f:Nat)(s:St),Lt s.ts.length (sumsAt f s)
 |0,s=>by rw[sumsAt];exact iE
 |f+1,s=>by
  rw[sumsAt]
  refine Lt.bind fun x t e=>?_
  have h1:=hZ f 0 s x t e
  dsimp only
  split
  ·rename_i h
   have h0:=aX (fE h)
   refine Lt.bind fun l u e2=>cN ?_
   have h2:=uX f t.next l u e2
   dsimp only
   lia
  ·exact cN h1
theorem ye:∀(f g:Nat)(s:St),3*s.ts.length+4<=f->3*s.ts.length+4<=g->sumsAt f s=sumsAt g s
 |0,_,_,h,_=>by lia
 |_+1,0,_,_,h=>by lia
 |f+1,g+1,s,h1,h2=>by
  rw[sumsAt,sumsAt]
  refine a8 (fw f g _ _ _ (by simp only[bc];lia) (by simp only[bc];lia)) fun x t e=>?_
  have h3:=hZ g 0 s x t e
  dsimp only
  split
  ·rename_i h
   have h0:=aX (fE h)
   exact a8 (ye f g t.next (by lia) (by lia)) fun _ _ _=>rfl
  ·rfl
def jt(s:St):Except Fault (List Sum×St):=sumsAt (3*s.ts.length+4) s
theorem E6{f:Nat}{s:St}(h:3*s.ts.length+4<=f):sumsAt f s=jt s:=ye _ _ _ h (Nat.le_refl _)
theorem Cd(s:St):jt s=bg .sum 0 s>>=fun x=>if x.2.isSign ','=true then(jt x.2.next>>=fun l=>.ok (x.1::l.1,l.2))else .ok ([x.1],x.2):=by
 show sumsAt (3*s.ts.length+4) s=_
 rw[sumsAt]
 refine a8 (fD (by simp only[bc];lia)) fun x t e=>?_
 have h3:=A2 0 s x t e
 dsimp only
 split
 ·rename_i h
  have h0:=aX (fE h)
  exact a8 (E6 (by lia)) fun _ _ _=>rfl
 ·rfl
def gc(N:Nat->List Bytes->St->Except Fault (List Bytes×St))(S:St->Except Fault (List Sum×St))(I:Nat->St->Except Fault (Items×St))(T:Nat->St->Except Fault (Stats×St))(s:St):Option (Except Fault (Head×St)):=
 if s.isWord "sizes"=true then some
  (if s.env.sizes.isSome=true\/s.env.lets≠[]then .error ⟨5,s.place⟩else
   N SIZES [] s.next>>=fun x=>eatSign ';' x.2>>=fun t=>.ok (.sizes x.1,{t with env:={t.env with sizes:=some x.1}}))
 else if s.isWord "yarns"=true then some
  (if s.env.yarns.isSome=true then .error ⟨5,s.place⟩else
   N YARNS [] s.next>>=fun x=>eatSign ';' x.2>>=fun t=>.ok (.yarns x.1,{t with env:={t.env with yarns:=some x.1}}))
 else if s.isWord "let"=true then some
  (newName s.env.lets.length LETS s.next []>>=fun n=>eatSign '=' n.2>>=fun t=>S t>>=fun x=>eatSign ';' x.2>>=fun u=>
   if x.1.length≠1/\x.1.length≠s.env.many then .error ⟨7,s.next.place⟩else .ok (.let_ n.1 x.1,{u with env:={u.env with lets:=u.env.lets++[n.1]}}))
 else if s.isWord "word"=true then some
  (newName s.env.words.length WORDS s.next []>>=fun n=>eatSign '=' n.2>>=fun t=>I 0 t>>=fun x=>eatSign ';' x.2>>=fun u=>
   .ok (.word n.1 x.1,{u with env:={u.env with words:=u.env.words++[n.1]}}))
 else if s.isWord "block"=true then some
  (newName s.env.blocks.length BLOCKS s.next []>>=fun n=>eatOpen '{' 0 n.2>>=fun t=>T 1 t>>=fun x=>eatSign '}' x.2>>=fun u=>
   .ok (.block n.1 x.1,{u with env:={u.env with blocks:=u.env.blocks++[n.1]}}))
 else none
def qY(U:St->Option (Except Fault (Head×St)))(T:St->Except Fault (List Head×St))(s:St):Except Fault (List Head×St):=
 match U s with
 |some g=>g>>=fun x=>T x.2>>=fun r=>.ok (x.1::r.1,r.2)
 |none=>.ok ([],s)
theorem tJ(f:Nat)(s:St):headsAt (f+1) s=qY (gc (namesAt f) (sumsAt f) (itemsAt f) (statsAt f)) (headsAt f) s:=by
 rw[headsAt]
 unfold qY gc
 dsimp only
 split
 ·dsimp only
  by_cases h:s.env.sizes.isSome=true\/s.env.lets≠[]
  ·rw[if_pos h,if_pos h];rfl
  ·rw[if_neg h,if_neg h];simp only[bN,eI];rfl
 ·split
  ·dsimp only
   by_cases h:s.env.yarns.isSome=true
   ·rw[if_pos h,if_pos h];rfl
   ·rw[if_neg h,if_neg h];simp only[bN,eI];rfl
  ·split
   ·simp only[bN]
    refine a8 rfl fun n t e=>gv fun u e=>a8 rfl fun x t e=>gv fun v e=>?_
    dsimp only
    split<;>rfl
   ·split
    ·simp only[bN,eI];rfl
    ·split
     ·simp only[bN,eI];rfl
     ·rfl
theorem pX{α:Type}{n:Nat}{s:St}{x:α}{e:Env}(h:s.ts.length<n):Lt n (.ok (x,({s with env:=e}:St))):=cN h
theorem wM{N:Nat->List Bytes->St->Except Fault (List Bytes×St)}{S:St->Except Fault (List Sum×St)}{I:Nat->St->Except Fault (Items×St)}{T:Nat->St->Except Fault (Stats×St)}
  (hN:∀m l s,Le s.ts.length (N m l s)) (hS:∀s,Le s.ts.length (S s)) (hI:∀d s,Le s.ts.length (I d s)) (hT:∀d s,Le s.ts.length (T d s)) {s:St} {g:Except Fault (Head×St)} (h:gc N S I T s=some g):Lt s.ts.length g:=by
 unfold gc at h
 split at h
 ·rename_i w;have h0:=aX (bI w)
  cases h
  split
  ·exact gm
  ·refine Lt.bind fun x t e=>cJ.bind fun u e2=>pX ?_
   have h1:=hN _ _ _ x t e
   have h2:=dA u e2
   dsimp only at h2
   lia
 ·split at h
  ·rename_i w;have h0:=aX (bI w)
   cases h
   split
   ·exact gm
   ·refine Lt.bind fun x t e=>cJ.bind fun u e2=>pX ?_
    have h1:=hN _ _ _ x t e
    have h2:=dA u e2
    dsimp only at h2
    lia
  ·split at h
   ·rename_i w;have h0:=aX (bI w)
    cases h
    refine Lt.bind fun n t e=>cJ.bind fun u e2=>Lt.bind fun x v e3=>cJ.bind fun z e4=>?_
    split
    ·exact gm
    ·refine pX ?_
     have h1:=i9 n t e
     have h2:=dA u e2
     have h3:=hS _ x v e3
     have h4:=dA z e4
     dsimp only at h2 h4
     lia
   ·split at h
    ·rename_i w;have h0:=aX (bI w)
     cases h
     refine Lt.bind fun n t e=>cJ.bind fun u e2=>Lt.bind fun x v e3=>cJ.bind fun z e4=>pX ?_
     have h1:=i9 n t e
     have h2:=dA u e2
     have h3:=hI _ _ x v e3
     have h4:=dA z e4
     dsimp only at h2 h4
     lia
    ·split at h
     ·rename_i w;have h0:=aX (bI w)
      cases h
      refine Lt.bind fun n t e=>cJ.bind fun u e2=>Lt.bind fun x v e3=>cJ.bind fun z e4=>pX ?_
      have h1:=i9 n t e
      have h2:=g9 u e2
      have h3:=hT _ _ x v e3
      have h4:=dA z e4
      dsimp only at h2 h4
      lia
     ·cases h
theorem GN{N N':Nat->List Bytes->St->Except Fault (List Bytes×St)}{S S':St->Except Fault (List Sum×St)}{I I':Nat->St->Except Fault (Items×St)}{T T':Nat->St->Except Fault (Stats×St)}{s:St}
  (hN:∀m l t,t.ts.length<s.ts.length->N m l t=N' m l t) (hS:∀t,t.ts.length+2<s.ts.length->S t=S' t) (hI:∀d t,t.ts.length<s.ts.length->I d t=I' d t) (hT:∀d t,t.ts.length<s.ts.length->T d t=T' d t):
  gc N S I T s=gc N' S' I' T' s:=by
 unfold gc
 split
 ·rename_i w;have h0:=aX (bI w)
  rw[hN _ _ _ h0]
 ·split
  ·rename_i w;have h0:=aX (bI w)
   rw[hN _ _ _ h0]
  ·split
   ·rename_i w;have h0:=aX (bI w)
    refine congrArg some (a8 rfl fun n t e=>gv fun u e2=>?_)
    have h1:=i9 n t e
    have h2:=dA u e2
    rw[hS _ (by dsimp only at h2;lia)]
   ·split
    ·rename_i w;have h0:=aX (bI w)
     refine congrArg some (a8 rfl fun n t e=>gv fun u e2=>?_)
     have h1:=i9 n t e
     have h2:=dA u e2
     rw[hI _ _ (by dsimp only at h2;lia)]
    ·split
     ·rename_i w;have h0:=aX (bI w)
      refine congrArg some (a8 rfl fun n t e=>gv fun u e2=>?_)
      have h1:=i9 n t e
      have h2:=g9 u e2
      rw[hT _ _ (by dsimp only at h2;lia)]
     ·rfl
theorem Bh:∀(f g:Nat)(s:St),3*s.ts.length+1<=f->3*s.ts.length+1<=g->headsAt f s=headsAt g s
 |0,_,_,h,_=>by lia
 |_+1,0,_,_,h=>by lia
 |f+1,g+1,s,h1,h2=>by
  rw[tJ,tJ]
  unfold qY
  rw[GN (N':=namesAt g) (S':=sumsAt g) (I':=itemsAt g) (T':=statsAt g) (fun m l t ht=>zk f g m l t (by lia) (by lia)) (fun t ht=>ye f g t (by lia) (by lia))
   (fun d t ht=>r8 f g d t (by lia) (by lia)) fun d t ht=>tq f g d t (by lia) (by lia)]
  split
  ·rename_i q h
   refine a8 rfl fun x t e=>?_
   have h3:=wM (fun m l s=>(vI g m l s).le) (fun s=>(uX g s).le) (fun d s=>(iT g d s).le) (fun d s=>nG g d s) h x t e
   exact a8 (Bh f g t (by lia) (by lia)) fun _ _ _=>rfl
  ·rfl
def jz(s:St):Except Fault (List Head×St):=headsAt (3*s.ts.length+1) s
theorem Bf{f:Nat}{s:St}(h:3*s.ts.length+1<=f):headsAt f s=jz s:=Bh _ _ _ h (Nat.le_refl _)
def ef(s:St):Option (Except Fault (Head×St)):=gc jR jt cU cS s
theorem Gi{s:St}{g:Except Fault (Head×St)}(h:ef s=some g):Lt s.ts.length g:=
 wM (fun m l s=>(vI _ m l s).le) (fun s=>(uX _ s).le) (fun d s=>(uZ d s).le) (fun d s=>Hc d s) h
theorem we(s:St):jz s=match ef s with
  |some g=>g>>=fun x=>jz x.2>>=fun r=>.ok (x.1::r.1,r.2)
  |none=>.ok ([],s):=by
 show headsAt (3*s.ts.length+1) s=_
 rw[tJ]
 unfold qY
 rw[GN (N':=jR) (S':=jt) (I':=cU) (T':=cS) (fun m l t ht=>B5 (by lia)) (fun t ht=>E6 (by lia)) (fun d t ht=>uD (by lia)) fun d t ht=>uq (by lia)]
 show(match ef s with|some g=>_|none=>_)=_
 cases h:ef s with
 |none=>rfl
 |some g=>
  dsimp only
  refine a8 rfl fun x t e=>?_
  have h3:=Gi h x t e
  exact a8 (Bf (by dsimp only;lia)) fun _ _ _=>rfl
theorem C6:∀(f:Nat)(s:St),Le s.ts.length (headsAt f s)
 |0,s=>by rw[headsAt];exact iE.le
 |f+1,s=>by
  rw[tJ]
  unfold qY
  split
  ·rename_i g h
   refine Le.bind fun x t e=>Le.bind fun r u e2=>iy ?_
   have h1:=wM (fun m l s=>(vI f m l s).le) (fun s=>(uX f s).le) (fun d s=>(iT f d s).le) (fun d s=>nG f d s) h x t e
   have h2:=C6 f t r u e2
   dsimp only
   lia
  ·exact iy (Nat.le_refl _)
theorem GB(b:Bytes):∀(n p:Nat),b.length-p<=n->p<=b.length->(toks b p).length<=b.length-p+1
 |0,p,h,hp=>by
  rw[vP]
  cases ht:cO (ao b p)with
  |false=>rw[mj ht];simp
  |true=>
   have h1:=CB ht
   have h2:=xS hp
   lia
 |n+1,p,h,hp=>by
  rw[vP]
  cases ht:cO (ao b p)with
  |false=>rw[mj ht];simp
  |true=>
   have h1:=CB ht
   have h2:=xS hp
   rw[oC ht]
   have:=GB b n (az b p) (by lia) h2
   simp only[List.length_cons]
   lia
def tm(s:St):Except Fault (Pattern×Env):=
 eatWord "pattern" s>>=fun s=>anyName s>>=fun n=>eatSign ';' n.2>>=fun t=>jz t>>=fun h=>cS 0 h.2>>=fun x=>
  match x.2.ts with
  |⟨_,.done⟩::_=>.ok (⟨n.1,h.1,x.1⟩,x.2.env)
  |_=>wanted x.2
theorem DU{b:Bytes}(h:b.length<=MOST):readAll b=tm ⟨toks b 0,.none_⟩:=by
 unfold readAll
 rw[if_neg (by lia)]
 show(eatWord "pattern" ⟨tokensOf b,.none_⟩>>=_)=_
 rw[O6]
 unfold tm
 have hl:(toks b 0).length<=b.length+1:=GB b b.length 0 (by lia) (by lia)
 have bS:∀{β:Type}{r:Except Fault St}{f g:St->Except Fault β},(∀s,r=.ok s->f s=g s)->(r>>=f)=(r>>=g):=by
  intro β r f g hh
  cases r with
  |error e=>rfl
  |ok s=>exact hh s rfl
 have bP:∀{α β:Type}{r r':Except Fault (α×St)}{f g:α×St->Except Fault β},r=r'->(∀x s,r'=.ok (x,s)->f (x,s)=g (x,s))->(r>>=f)=(r'>>=g):=by
  intro α β r r' f g e hh
  subst e
  cases r with
  |error e=>rfl
  |ok p=>obtain⟨x,s⟩:=p;exact hh x s rfl
 refine bS fun s e=>bP rfl fun n t e1=>bS fun u e2=>?_
 have h1:=G2 s e
 have h2:=pG n t e1
 have h3:=dA u e2
 dsimp only at h1 h2 h3
 refine bP (Bf (by lia)) fun hd v e3=>?_
 have h4:=C6 _ u hd v e3
 exact bP (uq (by dsimp only;lia)) fun x w e4=>rfl
end Wm
end
section
set_option Elab.async false
set_option linter.all false
set_option maxRecDepth 100000
set_option maxHeartbeats 2000000
namespace Wale
open PySem PySem.Spec PyProof.Rows L2
variable {P:Program}{w:World}{K:PySem.W.Frag}{mg:Str->Option Value}{base:Heap}{a:Ad}
theorem gx{ι:Type}{c:TT}{tb:TS}{D:Ends}{σ:L2.St}{H:Hp}(I:ι->L2.St->Hp->Prop)(μ:ι->Nat)(i0:ι)(h0:I i0 σ H)
  (hs:∀i σ H,I i σ H->c σ H fun b H1=>if b=true then ∃N:L2.St->Hp->Prop,(∀σ' H',N σ' H'->∃m',m'<μ i/\∃j,m'=μ j/\I j σ' H')/\tb {D with nx:=N,ct:=N,bk:=D.nx} σ H1 else D.nx σ H1):DO c tb D σ H:=
 ⟨fun m σ H=>∃i,m=μ i/\I i σ H,⟨_,i0,rfl,h0⟩,fun m σ H⟨i,e,q⟩=>by subst e;exact hs i σ H q⟩
theorem fM{ι:Type}{tb:TS}{D:Ends}{σ:L2.St}{H:Hp}{I:ι->L2.St->Hp->Prop}{μ:ι->Nat}{i:ι}
  (h:tb {D with nx:=fun σ' H'=>∃j,μ j<μ i/\I j σ' H',ct:=fun σ' H'=>∃j,μ j<μ i/\I j σ' H',bk:=D.nx} σ H):
  ∃N:L2.St->Hp->Prop,(∀σ' H',N σ' H'->∃m',m'<μ i/\∃j,m'=μ j/\I j σ' H')/\tb {D with nx:=N,ct:=N,bk:=D.nx} σ H:=
 ⟨_,fun σ' H'⟨j,l,q⟩=>⟨_,l,j,rfl,q⟩,h⟩
abbrev Bytes:=LsWale.Bytes
def nums(b:Bytes):List V:=b.map fun c=>V.int (c.toNat:Int)
def strOf(b:Bytes):Str:=⟨(b.map UInt8.toNat).toArray⟩
theorem eZ(b:Bytes):(nums b).length=b.length:=by unfold nums;rw[List.length_map]
theorem fO{b:Bytes}{i:Nat}{c:UInt8}(h:b[i]? =some c):kK (nums b) (i:Int)=some (.int c.toNat):=by
 refine xC ?_
 unfold nums
 rw[List.getElem?_map,h]
 rfl
def A0(g:Int->Bool):Sp:=fun vs H Q _=>∃n:Int,vs=[.int n]/\Q (.bl (g n)) H
def jO(n:Int):Bool:=decide (97<=n)&&decide (n<=122)
def digit(n:Int):Bool:=decide (48<=n)&&decide (n<=57)
def kR(n:Int):Bool:=jO n||(digit n||decide (n=95))
theorem Jf:aI ["byte"] ["byte"] (aB wH):=⟨rfl,rfl,rfl,by decide +kernel,rfl,by decide +kernel,by decide +kernel⟩
theorem vQ(T:Tx P w K mg a):ay P w K mg base aW 1 a.qJ a.qC ["byte"] (A0 jO):=by
 refine T.rm.fn.ok Jf (fun vs H Q E h=>?_) (fun cdv A outer s H vs Q E hr h=>?_)
 ·obtain⟨n,rfl,_⟩:=h;rfl
 obtain⟨n,rfl,k⟩:=h
 refine⟨_,aj (aN (D8 o1 o1 (cP T.Gw) (pv 0) (cP T.J3))),?_⟩
 refine(eX _ rfl ⟨_,eX _ rfl ⟨rfl,eX _ rfl ?_⟩⟩)
 unfold jO at k
 refine aV (fun c=>?_) (fun c=>?_)
 ·rw[c,Bool.true_and]at k
  exact⟨_,eX _ rfl ⟨rfl,k⟩⟩
 ·rw[Bool.eq_false_iff.mpr c,Bool.false_and]at k
  exact k
theorem Nf:aI ["byte"] ["byte"] (aB wj):=⟨rfl,rfl,rfl,by decide +kernel,rfl,by decide +kernel,by decide +kernel⟩
theorem sU(T:Tx P w K mg a):ay P w K mg base aW 1 a.qN a.qc ["byte"] (A0 digit):=by
 refine T.pQ.fn.ok Nf (fun vs H Q E h=>?_) (fun cdv A outer s H vs Q E hr h=>?_)
 ·obtain⟨n,rfl,_⟩:=h;rfl
 obtain⟨n,rfl,k⟩:=h
 refine⟨_,aj (aN (D8 o1 o1 (cP T.vS) (pv 0) (cP T.K2))),?_⟩
 refine(eX _ rfl ⟨_,eX _ rfl ⟨rfl,eX _ rfl ?_⟩⟩)
 unfold digit at k
 refine aV (fun c=>?_) (fun c=>?_)
 ·rw[c,Bool.true_and]at k
  exact⟨_,eX _ rfl ⟨rfl,k⟩⟩
 ·rw[Bool.eq_false_iff.mpr c,Bool.false_and]at k
  exact k
theorem M0:aI ["byte"] ["byte"] (aB Ac):=⟨rfl,rfl,rfl,by decide +kernel,rfl,by decide +kernel,by decide +kernel⟩
theorem HZ(T:Tx P w K mg a):ay P w K mg base aW 2 a.qw a.ql ["byte"] (A0 kR):=by
 refine T.GI.fn.ok M0 (fun vs H Q E h=>?_) (fun cdv A outer s H vs Q E hr h=>?_)
 ·obtain⟨n,rfl,_⟩:=h;rfl
 obtain⟨n,rfl,k⟩:=h
 refine⟨_,aj (aN (tU (aQ T.rm (vQ T) hr aU (aa (pv 0) ag)) (tU (aQ T.pQ (sU T) hr aU (aa (pv 0) ag)) (vh (jy cq (pv 0) (cP T.He) (a4 _)))))),?_⟩
 refine(eX _ rfl ⟨n,rfl,eX _ rfl ?_⟩)
 unfold kR at k
 refine aV (fun c=>?_) (fun c=>?_)
 ·rw[c,Bool.true_or]at k;exact k
 rw[Bool.eq_false_iff.mpr c,Bool.false_or]at k
 refine(eX _ rfl ⟨n,rfl,eX _ rfl ?_⟩)
 refine aV (fun c=>?_) (fun c=>?_)
 ·rw[c,Bool.true_or]at k;exact k
 rw[Bool.eq_false_iff.mpr c,Bool.false_or]at k
 refine(eX _ rfl ⟨rfl,?_⟩)
 rw[show decide (V.int n=V.int 95)=decide (n=95) by by_cases h:n=95<;>simp[h]]
 exact k
theorem Qj:∀k:Nat,k<26->("abcdefghijklmnopqrstuvwxyz":Str).cps.toList[k]? =some (97+k):=by decide +kernel
theorem LV:∀k:Nat,k<10->("0123456789":Str).cps.toList[k]? =some (48+k):=by decide +kernel
def N8:Sp:=fun vs H Q _=>∃n:Int,vs=[.int n]/\kR n=true/\Q (.str ⟨#[n.toNat]⟩) H
theorem L6:aI ["byte"] ["byte"] (aB yQ):=⟨rfl,rfl,rfl,by decide +kernel,rfl,by decide +kernel,by decide +kernel⟩
theorem N1(T:Tx P w K mg a):ay P w K mg base aW 2 a.p8 a.qj ["byte"] N8:=by
 refine T.sign_of.fn.ok L6 (fun vs H Q E h=>?_) (fun cdv A outer s H vs Q E hr h=>?_)
 ·obtain⟨n,rfl,_⟩:=h;rfl
 obtain⟨n,rfl,ht,k⟩:=h
 refine⟨_,ai (a5 (cX (aQ T.rm (vQ T) hr aU (aa (pv 0) ag))) (aj (aN (eQ EY (bB T.O0) (cY AI (pv 0) (cP T.Gw)) (fun _ _=>rfl)))) ba)
  (ai (a5 (cX (aQ T.pQ (sU T) hr aU (aa (pv 0) ag))) (aj (aN (eQ EY (bB T.Kf) (cY AI (pv 0) (cP T.vS)) (fun _ _=>rfl)))) ba)
  (aj (aN aP))),?_⟩
 refine(eX _ rfl ⟨n,rfl,eX _ rfl ?_⟩)
 refine aV (fun c=>?_) (fun c=>?_)
 ·simp only[jO,Bool.and_eq_true,decide_eq_true_eq]at c
  refine(eX _ rfl ⟨_,eX _ rfl ⟨rfl,_,_,n.toNat,rfl,rfl,by decide,?_,k⟩⟩)
  have e:n-97=((n.toNat-97:Nat):Int):=by lia
  rw[e]
  refine xC ?_
  rw[Qj _ (by lia)]
  congr 1;lia
 refine(eX _ rfl ⟨n,rfl,eX _ rfl ?_⟩)
 refine aV (fun c2=>?_) (fun c2=>?_)
 ·simp only[digit,Bool.and_eq_true,decide_eq_true_eq]at c2
  refine(eX _ rfl ⟨_,eX _ rfl ⟨rfl,_,_,n.toNat,rfl,rfl,by decide,?_,k⟩⟩)
  have e:n-48=((n.toNat-48:Nat):Int):=by lia
  rw[e]
  refine xC ?_
  rw[LV _ (by lia)]
  congr 1;lia
 ·have h95:n=95:=by
   simp only[kR,Bool.eq_false_iff.mpr c,Bool.eq_false_iff.mpr c2,Bool.false_or,decide_eq_true_eq]at ht
   exact ht
  subst h95
  exact k
def xN(K:PySem.W.Frag):Sp:=fun vs H Q _=>∃(p:Addr)(b:Bytes),vs=[.ref p]/\aF K H p (nums b)/\(∀c∈b,kR (c.toNat:Int)=true)/\b.length<=20000/\∀H',aK H H'->Q (.str (strOf b)) H'
theorem wQ:aI ["codes","byte"] ["codes"] (aB sM):=⟨rfl,rfl,rfl,by decide +kernel,rfl,by decide +kernel,by decide +kernel⟩
theorem join_one(b:Bytes):Txt.join "" (b.map fun c=>(⟨#[c.toNat]⟩:Str))=strOf b:=by
 rw[TL.join_eq]
 have e:∀l:List (List Nat),TL.j9 [] l=l.flatten:=by
  intro l
  induction l with
  |nil=>rfl
  |cons p r ih=>
   cases r with
   |nil=>simp[TL.j9]
   |cons q r=>rw[TL.j9,ih];simp
 have h:=TL.wO "" (b.map fun c=>(⟨#[c.toNat]⟩:Str))
 rw[show TL.tl ("":Str)=[]from by decide +kernel,e,List.map_map]at h
 have h2:(List.map (TL.tl∘fun c=>(⟨#[UInt8.toNat c]⟩:Str)) b).flatten=b.map UInt8.toNat:=by
  clear h
  induction b with
  |nil=>rfl
  |cons c r ih=>rw[List.map_cons,List.flatten_cons,ih];rfl
 rw[h2]at h
 unfold strOf
 generalize Str.join "" (b.map fun c=>(⟨#[c.toNat]⟩:Str))=z at h
 obtain⟨⟨l⟩⟩:=z
 have h3:l=b.map UInt8.toNat:=h
 rw[h3]
theorem MN:iX ["codes","byte"] (aB sM) {kind:=.function,names:=[(".0",.local),("byte",.local),("sign_of",.globalImplicit)],isGenerator:=false,isCoroutine:=false} [("byte",1)]:=rf (by decide +kernel)
theorem FF(T:Tx P w K mg a):ay P w K mg base aW 3 a.pI a.rB ["codes"] (xN K):=by
 refine T.spelled.fn.ok wQ (fun vs H Q E h=>?_) (fun cdv A outer s H vs Q E hr h=>?_)
 ·obtain⟨_,_,rfl,_⟩:=h;rfl
 obtain⟨p,b,rfl,hS,ht,hl,k⟩:=h
 refine⟨_,aj (aN (se aP (rQ (own:=[("byte",1)]) rfl wQ.nd (oW (pv 0)) MN (fun _ _ _ _ _=>jW (i:=1) wQ.nd rfl (Or.inl rfl)) (fun _ _ _ _ _=>qH)
  (fun _ _ _ _ _=>aQ T.sign_of (N1 T) hr aU (aa (pv 1) ag))))),?_⟩
 refine⟨⟨_,rfl⟩,eX _ rfl ⟨p,rfl,⟨_,hS⟩,fun D hD=>?_⟩⟩
 have s0:aK H (upd H D (.lst [])):=fun x o e=>by rw[ak (d7 e hD)];exact e
 refine sT (K:=K) (a:=p) (xs:=nums b) (fun i H'=>aK H H'/\H' D=some (.lst ((b.take i).map fun c=>V.str ⟨#[c.toNat]⟩))) ⟨s0,aw⟩ (fun i H' _ q=>q.1.seq hS) (fun i x H' hi q=>?_) (fun H' q=>?_)
 ·obtain⟨sm,hd⟩:=q
  unfold nums at hi
  rw[List.getElem?_map]at hi
  obtain⟨c,hc,rfl⟩:=Option.map_eq_some_iff.mp hi
  have hi2:i<b.length:=(List.getElem?_eq_some_iff.mp hc).1
  refine⟨rfl,⟨_,rfl,_,rfl,ht c (List.mem_of_getElem? hc),_,hd,?_,?_,?_⟩⟩
  ·rw[List.length_map,List.length_take,sizeLine_eq];lia
  ·exact fun x o e=>by
    rw[ak (d7 e hD)]
    exact sm x o e
  ·rw[aw,List.take_add_one,hc]
   simp
 ·obtain⟨sm,hd⟩:=q
  rw[eZ,List.take_length]at hd
  refine⟨_,D,b.map fun c=>(⟨#[c.toNat]⟩:Str),rfl,rfl,.inl (aF.of (by rw[hd,List.map_map];rfl)),?_,?_⟩
  ·have:((b.map fun c=>(⟨#[c.toNat]⟩:Str)).map (·.length)).sum=b.length:=by
    rw[List.map_map]
    clear hd sm s0 hD k hl ht hS
    induction b with
    |nil=>rfl
    |cons c r ih=>rw[List.map_cons,List.sum_cons,ih,List.length_cons];show 1+_=_;lia
   rw[this]
   show _+_*0<=_
   lia
  ·rw[join_one]
   exact k H' sm
end Wale
end
section
set_option linter.all false
namespace Wm
open LsWale
theorem drop_cons{b:Bytes}{q:Nat}{c:UInt8}(h:b[q]? =some c):b.drop q=c::b.drop (q+1):=by
 obtain⟨hl,rfl⟩:=List.getElem?_eq_some_iff.mp h
 exact List.drop_eq_getElem_cons hl
theorem uN{b:Bytes}{q:Nat}(h:b.length<=q):b.drop q=[]:=List.drop_eq_nil_of_le h
theorem oa(c:UInt8):isByte c=true↔c.toNat=10\/(32<=c.toNat/\c.toNat<=126):=by
 unfold isByte
 rw[Bool.or_eq_true,Bool.and_eq_true,decide_eq_true_eq,decide_eq_true_eq,beq_iff_eq,UInt8.le_iff_toNat_le,UInt8.le_iff_toNat_le,<-UInt8.toNat_inj]
 rfl
theorem sN(c:UInt8):isLetter c=true↔97<=c.toNat/\c.toNat<=122:=by
 unfold isLetter
 rw[Bool.and_eq_true,decide_eq_true_eq,decide_eq_true_eq,UInt8.le_iff_toNat_le,UInt8.le_iff_toNat_le]
 rfl
theorem ua(c:UInt8):isDigit c=true↔48<=c.toNat/\c.toNat<=57:=by
 unfold isDigit
 rw[Bool.and_eq_true,decide_eq_true_eq,decide_eq_true_eq,UInt8.le_iff_toNat_le,UInt8.le_iff_toNat_le]
 rfl
theorem GC(c:UInt8):isTail c=true↔(97<=c.toNat/\c.toNat<=122)\/c.toNat=95:=by
 unfold isTail
 rw[Bool.or_eq_true,sN,beq_iff_eq,<-UInt8.toNat_inj]
 rfl
theorem Ap{b:Bytes}{q:Nat}{c:UInt8}(h:b[q]? =some c):blanks false (b.drop q)=
  if c.toNat=10\/c.toNat=32 then 1+blanks false (b.drop (q+1))else if c.toNat=35 then 1+blanks true (b.drop (q+1))else 0:=by
 rw[drop_cons h,blanks]
 have e1:(c=10\/c=32)↔(c.toNat=10\/c.toNat=32):=by rw[<-UInt8.toNat_inj,<-UInt8.toNat_inj];rfl
 have e2:c=35↔c.toNat=35:=by rw[<-UInt8.toNat_inj];rfl
 simp only[e1,e2]
theorem sF{b:Bytes}{q:Nat}{c:UInt8}(h:b[q]? =some c):blanks true (b.drop q)=
  if c.toNat=10 then 1+blanks false (b.drop (q+1))else if isByte c=true then 1+blanks true (b.drop (q+1))else 0:=by
 rw[drop_cons h,blanks]
 have e2:c=10↔c.toNat=10:=by rw[<-UInt8.toNat_inj];rfl
 simp only[e2]
theorem zS{f:Bool}{b:Bytes}{q:Nat}(h:b.length<=q):blanks f (b.drop q)=0:=by
 rw[uN h];cases f<;>rfl
theorem Ht(d:Bytes)(c:UInt8):valueOf (d++[c])=10*valueOf d+(c.toNat-48):=by
 unfold valueOf;rw[List.foldl_append];rfl
theorem NQ(v d:Nat):min (min v 1048577*10+d) 1048577=min (10*v+d) 1048577:=by lia
def run(f:UInt8->Bool)(b:Bytes)(p:Nat):Nat:=((b.drop p).takeWhile f).length
theorem xo{f:UInt8->Bool}{b:Bytes}{p:Nat}{c:UInt8}(h:b[p]? =some c):run f b p=if f c=true then 1+run f b (p+1)else 0:=by
 unfold run
 rw[drop_cons h,List.takeWhile_cons]
 split
 ·rw[List.length_cons];lia
 ·rfl
theorem za{f:UInt8->Bool}{b:Bytes}{p:Nat}(h:b.length<=p):run f b p=0:=by
 unfold run;rw[uN h];rfl
theorem vi(f:UInt8->Bool)(l:Bytes):l.take (l.takeWhile f).length=l.takeWhile f:=by
 induction l with
 |nil=>rfl
 |cons c r ih=>
  rw[List.takeWhile_cons]
  split
  ·rw[List.length_cons,List.take_succ_cons,ih]
  ·rfl
theorem Fu{f:UInt8->Bool}{l:Bytes}:∀c∈l.takeWhile f,f c=true:=by
 intro c hc
 induction l with
 |nil=>cases hc
 |cons d r ih=>
  rw[List.takeWhile_cons]at hc
  split at hc
  ·rename_i q
   rcases List.mem_cons.mp hc with rfl|hc
   ·exact q
   ·exact ih hc
  ·cases hc
theorem take_snoc{l:Bytes}{i:Nat}{c:UInt8}(h:l[i]? =some c):l.take (i+1)=l.take i++[c]:=by
 rw[List.take_add_one,h];rfl
def dW(c:UInt8):Bool:=isTail c||isDigit c
theorem gT:∀w∈DIGITWORDS,(∀c∈w,dW c=true)/\w.length<=5/\1<=w.length:=by decide +kernel
theorem D5{f:UInt8->Bool}{b w:Bytes}(h1:b.take w.length=w)(h2:∀c∈w,f c=true)(h3:((b.drop w.length).take 1).any f=false):b.takeWhile f=w:=by
 have e:b=w++b.drop w.length:=by
  have:=List.take_append_drop w.length b
  rw[h1]at this
  exact this.symm
 rw[e,List.takeWhile_append_of_pos h2]
 cases hd:b.drop w.length with
 |nil=>simp
 |cons c r=>
  rw[hd]at h3
  simp only[List.take_succ_cons,List.take_zero,List.any_cons,List.any_nil,Bool.or_false]at h3
  rw[List.takeWhile_cons,h3]
  simp
theorem Oq{f:UInt8->Bool}{b w:Bytes}(h:b.takeWhile f=w):b.take w.length=w/\((b.drop w.length).take 1).any f=false:=by
 subst h
 refine⟨vi f b,?_⟩
 induction b with
 |nil=>rfl
 |cons c r ih=>
  rw[List.takeWhile_cons]
  split
  ·rw[List.length_cons,List.drop_succ_cons];exact ih
  ·rename_i q
   simp only[List.length_nil,List.drop_zero,List.take_succ_cons,List.take_zero,List.any_cons,List.any_nil,Bool.or_false]
   simpa using q
def dg(b:Bytes):Bytes:=(b.takeWhile dW).take 6
theorem MG{b w:Bytes}(h:dg b=w)(hl:w.length<=5):b.takeWhile dW=w:=by
 unfold dg at h
 have h1:min 6 (b.takeWhile dW).length=w.length:=by rw[<-h,List.length_take]
 rw[<-h,List.take_of_length_le (by lia)]
theorem Fn{b:Bytes}(h:dg b∈DIGITWORDS):wordAt b=dg b:=by
 obtain⟨h1,h2,h3⟩:=gT _ h
 have e:=MG rfl h2
 have⟨t1,t2⟩:=Oq e
 unfold wordAt
 have:DIGITWORDS.find? (fun(w:Bytes)=>b.take w.length==w&& !((b.drop w.length).take 1).any fun(c:UInt8)=>isTail c||isDigit c)=some (dg b):=by
  cases hf:DIGITWORDS.find? (fun(w:Bytes)=>b.take w.length==w&& !((b.drop w.length).take 1).any fun(c:UInt8)=>isTail c||isDigit c)with
  |none=>
   exfalso
   have:=List.find?_eq_none.mp hf _ h
   simp only[t1,beq_self_eq_true,Bool.true_and]at this
   exact this (by rw[show(((b.drop (dg b).length).take 1).any fun(c:UInt8)=>isTail c||isDigit c)=false from t2];rfl)
  |some w=>
   have hm:=List.mem_of_find?_eq_some hf
   have hp:=List.find?_some hf
   simp only[Bool.and_eq_true,beq_iff_eq,Bool.not_eq_true']at hp
   have:=D5 hp.1 (gT w hm).1 hp.2
   rw[e]at this
   rw[this]
 rw[this]
theorem D3{c:UInt8}{r:Bytes}(h:dg (c::r)∉DIGITWORDS)(hc:isLetter c=true):wordAt (c::r)=(c::r).takeWhile isTail:=by
 unfold wordAt
 have:DIGITWORDS.find? (fun(w:Bytes)=>(c::r).take w.length==w&& !(((c::r).drop w.length).take 1).any fun(c:UInt8)=>isTail c||isDigit c)=none:=by
  refine List.find?_eq_none.mpr fun w hm hp=>h ?_
  simp only[Bool.and_eq_true,beq_iff_eq,Bool.not_eq_true']at hp
  have e:=D5 hp.1 (gT w hm).1 hp.2
  have e2:dg (c::r)=w:=by
   have e':(c::r).takeWhile dW=w:=e
   unfold dg
   rw[e',List.take_of_length_le (by have:=(gT w hm).2.1;lia)]
  rw[e2];exact hm
 rw[this]
 have ht:isTail c=true:=by unfold isTail;rw[hc];rfl
 simp only[hc,if_true]
 rw[List.takeWhile_cons,if_pos ht]
end Wm
end
section
set_option Elab.async false
set_option linter.all false
set_option maxRecDepth 100000
set_option maxHeartbeats 2000000
namespace Wale
open PySem PySem.Spec PyProof.Rows L2
open Wm (Ap sF zS oa aS ao az)
open LsWale (blanks isByte)
variable {P:Program}{w:World}{K:PySem.W.Frag}{mg:Str->Option Value}{base:Heap}{a:Ad}
theorem kQ{X:Cx}{e:Expr}{te:TE}{p pos:Pos}(hm:X.mg "len"=none)(he:PE X e te)(hg:Gl X "len":=by rfl)(hst:starEach [e] X.env=[(false,eval e X.env)]:=by rfl):
  PE X (.Call (.Name "len" p) [e] [] pos) (rZ (fun xs H Q=>∃p ys,xs=[.ref p]/\(aF X.K H p ys\/fq X.K H p ys)/\Q (.int ys.length) H) (bV te eC)):=
 jo wo hg hm PySem.boot_len (aa he ag hst) (by decide) (by decide) hst rfl
theorem fS{i j:Int}:decide (V.int i=V.int j)=decide (i=j):=by by_cases h:i=j<;>simp[h]
def LM(K:PySem.W.Frag)(a:Ad):Sp:=fun vs H Q E=>∃(t:Addr)(b:Bytes)(p:Nat),vs=[.ref t,.int p]/\aF K H t (nums b)/\(∃c,b[p]? =some c/\c.toNat=35)/\
 (∀q:Nat,p<q->q<=b.length->q+blanks false (b.drop q)=p+blanks true (b.drop p)->Q (.int q) H)/\
 ∀c,b[p+blanks true (b.drop p)]? =some c->isByte c=false->Told K a E 1 (p+blanks true (b.drop p):Nat)
theorem Az:aI ["t","start","place"] ["t","start"] (aB xn):=⟨rfl,rfl,rfl,by decide +kernel,rfl,by decide +kernel,by decide +kernel⟩
theorem JS(T:Tx P w K mg a):ay P w K mg base (bh P w) 4 a.sC a.pH ["t","start"] (LM K a):=by
 refine T.FG.fn.bx Az (fun vs H Q E h=>?_) (fun cdv A outer s H vs Q E hr h=>?_)
 ·obtain⟨_,_,_,rfl,_⟩:=h;rfl
 obtain⟨t,b,p,rfl,hS,⟨c0,hc0,h35⟩,k1,k2⟩:=h
 refine⟨_,ai (aY (i:=2) Az.nd rfl (Or.inl rfl) (pv 1)) (ai (f7 hG
   (PW.pt (ky (a6 lC (pv 2) (kQ T.gB (pv 0)) (a4 _)) (mw (a6 lB (eQ fG (pv 0) (pv 2) (fun _ _=>rfl)) (cP T.FV) (a4 _)))))
   (ai (a5 (PW.pt (iL (a6 lC (eQ fG (pv 0) (pv 2) (fun _ _=>rfl)) (cP T.KW) (a4 _)) (iZ (a6 jU (eQ fG (pv 0) (pv 2) (fun _ _=>rfl)) (cP T.HY) (a4 _)))))
     (aj (eY rfl fj T.pT (EL T) T.vY.2 (hr.mono (by decide)) (pv 2))) ba)
    (aj (pJ (i:=2) Az.nd rfl (Or.inl rfl) bW sk))))
  (aj (aN (pv 2)))),?_⟩
 refine(eX _ rfl ?_)
 refine gx (fun(q:Nat)σ H'=>H'=H/\σ=[some (.ref t),some (.int p),some (.int q)]/\p<=q/\q<=b.length/\q+blanks true (b.drop q)=p+blanks true (b.drop p)) (fun q=>b.length-q) p
  ⟨rfl,rfl,Nat.le_refl _,Nat.le_of_lt (List.getElem?_eq_some_iff.mp hc0).1,rfl⟩ ?_
 rintro q σ H' ⟨rfl,rfl,l1,l2,e⟩
 refine(eX _ rfl (eX _ rfl ⟨t,eX _ rfl ⟨.inl hS,_,eX _ rfl ⟨rfl,eX _ rfl ?_⟩⟩⟩))
 refine aV (fun c=>?_) (fun c=>?_)
 ·rw[eZ]at c
  have lt:q<b.length:=by have:=of_decide_eq_true c;lia
  obtain⟨cb,hcb⟩:∃c,b[q]? =some c:=⟨_,List.getElem?_eq_getElem lt⟩
  refine(eX _ rfl (eX _ rfl ⟨t,_,_,eX _ rfl ⟨rfl,hS,fO hcb,rfl,eX _ rfl ?_⟩⟩))
  rw[fS]
  refine aV (fun c2=>?_) (fun c2=>?_)
  ·have n10:cb.toNat≠10:=fun z=>by rw[z]at c2;exact absurd c2 (by decide)
   refine fM ?_
   refine(eX _ rfl (eX _ rfl ⟨t,_,_,eX _ rfl ⟨rfl,hS,fO hcb,_,eX _ rfl ⟨rfl,eX _ rfl ?_⟩⟩⟩))
   have bt:=sF hcb
   rw[if_neg n10]at bt
   refine aV (fun c3=>?_) (fun c3=>?_)
   ·have hb:isByte cb=false:=Bool.eq_false_iff.mpr fun z=>by
     have:=of_decide_eq_true c3
     rcases(oa cb).mp z with z|z<;>lia
    rw[if_neg (by rw[hb];decide)]at bt
    refine(eX _ rfl (eA T.pT ?_))
    have eq:q=p+blanks true (b.drop p):=by lia
    rw[eq]
    exact k2 cb (by rw[<-eq];exact hcb) hb
   ·refine(eX _ rfl (eX _ rfl ⟨t,_,_,eX _ rfl ⟨rfl,hS,fO hcb,_,eX _ rfl ⟨rfl,eX _ rfl ?_⟩⟩⟩))
    refine aV (fun c4=>?_) (fun c4=>?_)
    ·have hb:isByte cb=false:=Bool.eq_false_iff.mpr fun z=>by
      have:=of_decide_eq_true c4
      rcases(oa cb).mp z with z|z<;>lia
     rw[if_neg (by rw[hb];decide)]at bt
     refine(eX _ rfl (eA T.pT ?_))
     have eq:q=p+blanks true (b.drop p):=by lia
     rw[eq]
     exact k2 cb (by rw[<-eq];exact hcb) hb
    ·have h3:¬((cb.toNat:Int)<32):=fun z=>c3 (decide_eq_true z)
     have h4:¬((126:Int)<cb.toNat):=fun z=>c4 (decide_eq_true z)
     have hb:isByte cb=true:=(oa cb).mpr (.inr ⟨by lia,by lia⟩)
     rw[if_pos hb]at bt
     refine(eX _ rfl ⟨_,eX _ rfl ⟨rfl,q+1,by lia,rfl,?_,by lia,lt,by lia⟩⟩)
     rfl
  ·have n10:cb.toNat=10:=by
    have:=Bool.eq_false_iff.mpr c2
    simp only[Bool.not_eq_false',decide_eq_true_eq]at this
    lia
   have bt:=sF hcb
   have bf:=Ap hcb
   rw[if_pos n10]at bt
   rw[if_pos (.inl n10)]at bf
   refine(eX _ rfl (k1 q ?_ l2 (by lia)))
   refine Nat.lt_of_le_of_ne l1 fun z=>?_
   rw[<-z,hc0]at hcb
   cases hcb
   lia
 ·rw[eZ]at c
  have ge:b.length<=q:=by
   have:¬((q:Int)<b.length):=fun z=>c (decide_eq_true z)
   lia
  refine(eX _ rfl (k1 q ?_ l2 (by rw[zS ge]at e ⊢;exact e)))
  have:=(List.getElem?_eq_some_iff.mp hc0).1
  lia
def JE(K:PySem.W.Frag)(a:Ad):Sp:=fun vs H Q E=>∃(t:Addr)(b:Bytes)(p:Nat),vs=[.ref t,.int p]/\aF K H t (nums b)/\p<=b.length/\Q (.int (aS b p:Nat)) H/\
 ∀c,b[aS b p]? =some c->isByte c=false->Told K a E 1 (aS b p:Nat)
theorem tY:aI ["t","start","place"] ["t","start"] (aB zM):=⟨rfl,rfl,rfl,by decide +kernel,rfl,by decide +kernel,by decide +kernel⟩
theorem PQ(T:Tx P w K mg a):ay P w K mg base (bh P w) 5 a.qy a.qU ["t","start"] (JE K a):=by
 refine T.Cu.fn.bx tY (fun vs H Q E h=>?_) (fun cdv A outer s H vs Q E hr h=>?_)
 ·obtain⟨_,_,_,rfl,_⟩:=h;rfl
 obtain⟨t,b,p,rfl,hS,hp,k1,k2⟩:=h
 refine⟨_,ai (aY (i:=2) tY.nd rfl (Or.inl rfl) (pv 1)) (ai (f7 hG (a6 lC (pv 2) (kQ T.gB (pv 0)) (a4 _))
   (aj (a5 (a6 cq (eQ fG (pv 0) (pv 2) (fun _ _=>rfl)) (cP T.Lk) (a4 _))
    (aj (aY (i:=2) tY.nd rfl (Or.inl rfl) (aQ T.FG (JS T) hr au (aa (pv 0) (aa (pv 2) ag)))))
    (aj (a5 (PW.pt (iL (a6 cq (eQ fG (pv 0) (pv 2) (fun _ _=>rfl)) (cP T.FV) (a4 _)) (iZ (a6 cq (eQ fG (pv 0) (pv 2) (fun _ _=>rfl)) (cP T.OH) (a4 _)))))
     (aj (pJ (i:=2) tY.nd rfl (Or.inl rfl) bW sk)) (aj (aN (pv 2))))))))
  (aj (aN (pv 2)))),?_⟩
 refine(eX _ rfl ?_)
 refine gx (fun(q:Nat)σ H'=>H'=H/\σ=[some (.ref t),some (.int p),some (.int q)]/\q<=b.length/\q+blanks false (b.drop q)=aS b p) (fun q=>b.length-q) p ⟨rfl,rfl,hp,rfl⟩ ?_
 rintro q σ H' ⟨rfl,rfl,l2,e⟩
 refine(eX _ rfl (eX _ rfl ⟨t,eX _ rfl ⟨.inl hS,_,eX _ rfl ⟨rfl,eX _ rfl ?_⟩⟩⟩))
 refine aV (fun c=>?_) (fun c=>?_)
 ·rw[eZ]at c
  have lt:q<b.length:=by have:=of_decide_eq_true c;lia
  obtain⟨cb,hcb⟩:∃c,b[q]? =some c:=⟨_,List.getElem?_eq_getElem lt⟩
  have bf:=Ap hcb
  refine fM ?_
  refine(eX _ rfl (eX _ rfl ⟨t,_,_,eX _ rfl ⟨rfl,hS,fO hcb,rfl,eX _ rfl ?_⟩⟩))
  rw[fS]
  refine aV (fun c2=>?_) (fun c2=>?_)
  ·have h35:cb.toNat=35:=by have:=of_decide_eq_true c2;lia
   rw[if_neg (by lia),if_pos h35]at bf
   have bt:=sF hcb
   rw[if_neg (by lia),if_pos ((oa cb).mpr (.inr ⟨by lia,by lia⟩))]at bt
   have eq:q+blanks true (b.drop q)=aS b p:=by lia
   refine(eX _ rfl (eX _ rfl ⟨t,b,q,rfl,hS,⟨cb,hcb,h35⟩,fun r r1 r2 r3=>?_,fun c hc hb=>?_⟩))
   ·exact⟨r,by lia,rfl,rfl,r2,by lia⟩
   ·rw[eq]at hc ⊢
    exact k2 c hc hb
  ·have h35:cb.toNat≠35:=fun z=>c2 (decide_eq_true (by lia))
   refine(eX _ rfl (eX _ rfl ⟨t,_,_,eX _ rfl ⟨rfl,hS,fO hcb,rfl,eX _ rfl ?_⟩⟩))
   rw[fS]
   have go:(cb.toNat=10\/cb.toNat=32)->q+1+blanks false (b.drop (q+1))=aS b p:=fun z=>by
    rw[if_pos z]at bf;lia
   refine aV (fun c3=>?_) (fun c3=>?_)
   ·have z:cb.toNat=10:=by have:=of_decide_eq_true c3;lia
    refine(eX _ rfl ⟨_,eX _ rfl ⟨rfl,q+1,by lia,rfl,rfl,lt,go (.inl z)⟩⟩)
   ·have n10:cb.toNat≠10:=fun z=>c3 (decide_eq_true (by lia))
    refine(eX _ rfl (eX _ rfl ⟨t,_,_,eX _ rfl ⟨rfl,hS,fO hcb,rfl,eX _ rfl ?_⟩⟩))
    rw[fS]
    refine aV (fun c4=>?_) (fun c4=>?_)
    ·have z:cb.toNat=32:=by have:=of_decide_eq_true c4;lia
     exact(eX _ rfl ⟨_,eX _ rfl ⟨rfl,q+1,by lia,rfl,rfl,lt,go (.inr z)⟩⟩)
    ·have n32:cb.toNat≠32:=fun z=>c4 (decide_eq_true (by lia))
     rw[if_neg (by lia),if_neg h35]at bf
     refine(eX _ rfl ?_)
     rw[show(q:Int)=(aS b p:Nat) by lia]
     exact k1
 ·rw[eZ]at c
  have ge:b.length<=q:=by
   have:¬((q:Int)<b.length):=fun z=>c (decide_eq_true z)
   lia
  refine(eX _ rfl ?_)
  rw[zS ge]at e
  rw[show(q:Int)=(aS b p:Nat) by lia]
  exact k1
end Wale
end
section
set_option Elab.async false
set_option linter.all false
set_option maxRecDepth 100000
set_option maxHeartbeats 2000000
namespace Wale
open PySem PySem.Spec PyProof.Rows L2
open Wm
open LsWale (blanks isByte isLetter isDigit isTail valueOf isNumber DIGITWORDS wordAt oneToken KEYWORDS PLAINS isName)
variable {P:Program}{w:World}{K:PySem.W.Frag}{mg:Str->Option Value}{base:Heap}{a:Ad}
def bY(C:Addr)(H:Hp)(x:Addr)(kd tx:Str)(n pl af:Int):Prop:=∃dx fs,H x=some (.ins C dx fs)/\fs.lookup ("kind":Str)=some (.str kd)/\fs.lookup ("text":Str)=some (.str tx)/\fs.lookup ("number":Str)=some (.int n)/\
 fs.lookup ("place":Str)=some (.int pl)/\fs.lookup ("after":Str)=some (.int af)
def kC(C:Addr):Sp:=fun vs H Q _=>∃(x dx:Addr)(kd tx:Str)(n pl af:Int),vs=[.ref x,.str kd,.str tx,.int n,.int pl,.int af]/\H x=some (.ins C dx [])/\
 ∀H':Hp,bY C H' x kd tx n pl af->(∀b o,H b=some o->b≠x->H' b=some o)->Q .ax H'
theorem Ku:aI ["self","kind","text","number","place","after"] ["self","kind","text","number","place","after"] (aB xF):=⟨rfl,rfl,rfl,by decide +kernel,rfl,by decide +kernel,by decide +kernel⟩
theorem uW(f:Str)(v:V)(fs:List (Str×V))(n:Nat)(h:fs.length<=n):(cy f v fs).length<=n+1:=Nat.le_trans (AF f v fs) (Nat.succ_le_succ h)
theorem pE{f:Str}{v:V}{fs:List (Str×V)}:(cy f v fs).lookup f=some v:=by rw[pM,if_pos rfl]
theorem hJ{f g:Str}{v:V}{fs:List (Str×V)}(h:g≠f):(cy f v fs).lookup g=fs.lookup g:=by rw[pM,if_neg h]
theorem Qg(T:Tx P w K mg a):ay P w K mg base aW 1 a.kh a.nN ["self","kind","text","number","place","after"] (kC a.bL):=by
 refine T.By.1.ok Ku (fun vs H Q E h=>?_) (fun cdv A outer s H vs Q E hr h=>?_)
 ·obtain⟨_,_,_,_,_,_,_,rfl,_⟩:=h;rfl
 obtain⟨x,dx,kd,tx,n,pl,af,rfl,hx,k⟩:=h
 refine⟨_,ai (c6 (pv 0) (pv 1) rfl) (ai (c6 (pv 0) (pv 2) rfl) (ai (c6 (pv 0) (pv 3) rfl) (ai (c6 (pv 0) (pv 4) rfl) (aj (c6 (pv 0) (pv 5) rfl))))),?_⟩
 have C:=T.bz.cl
 refine(eX _ rfl (eX _ rfl ⟨x,_,dx,eX _ rfl ⟨hx,C,T.kj,(by show 0<1000;decide),?_⟩⟩))
 have l1:=uW "kind" (.str kd) [] 0 (Nat.le_refl _)
 have l2:=uW "text" (.str tx) _ 1 l1
 have l3:=uW "number" (.int n) _ 2 l2
 have l4:=uW "place" (.int pl) _ 3 l3
 refine(eX _ rfl (eX _ rfl ⟨x,_,dx,eX _ rfl ⟨aw,C,T.bZ,(by lia),?_⟩⟩))
 refine(eX _ rfl (eX _ rfl ⟨x,_,dx,eX _ rfl ⟨aw,C,T.qK,(by lia),?_⟩⟩))
 refine(eX _ rfl (eX _ rfl ⟨x,_,dx,eX _ rfl ⟨aw,C,T.gL,(by lia),?_⟩⟩))
 refine(eX _ rfl (eX _ rfl ⟨x,_,dx,eX _ rfl ⟨aw,C,T.Eg,(by lia),?_⟩⟩))
 refine k _ ⟨dx,_,aw,?_,?_,?_,?_,?_⟩ fun b o e hb=>by rw[ak hb,ak hb,ak hb,ak hb,ak hb];exact e
 ·rw[hJ (by decide +kernel),hJ (by decide +kernel),hJ (by decide +kernel),hJ (by decide +kernel),pE]
 ·rw[hJ (by decide +kernel),hJ (by decide +kernel),hJ (by decide +kernel),pE]
 ·rw[hJ (by decide +kernel),hJ (by decide +kernel),pE]
 ·rw[hJ (by decide +kernel),pE]
 ·rw[pE]
theorem mI{X:Cx}{e1 e2 e3 e4 e5:Expr}{t1 t2 t3 t4 t5:TE}{p pos:Pos}(T:Tx X.prog X.w X.K X.mg a)(hr:bA 2 X.A)(h1:PE X e1 t1)(h2:PE X e2 t2)(h3:PE X e3 t3)(h4:PE X e4 t4)(h5:PE X e5 t5)(hg:Gl X "Token":=by rfl)
  (s1:starEach [e1,e2,e3,e4,e5] X.env=[(false,eval e1 X.env),(false,eval e2 X.env),(false,eval e3 X.env),(false,eval e4 X.env),(false,eval e5 X.env)]:=by rfl)
  (s2:starEach [e2,e3,e4,e5] X.env=[(false,eval e2 X.env),(false,eval e3 X.env),(false,eval e4 X.env),(false,eval e5 X.env)]:=by rfl) (s3:starEach [e3,e4,e5] X.env=[(false,eval e3 X.env),(false,eval e4 X.env),(false,eval e5 X.env)]:=by rfl)
  (s4:starEach [e4,e5] X.env=[(false,eval e4 X.env),(false,eval e5 X.env)]:=by rfl) (s5:starEach [e5] X.env=[(false,eval e5 X.env)]:=by rfl):
  PE X (.Call (.Name "Token" p) [e1,e2,e3,e4,e5] [] pos) (kG a.bL (kC a.bL) [] E0 (bV t1 (bV t2 (bV t3 (bV t4 (bV t5 eC)))))):=
 eP T.bz.eJ (Qg T) hr hg T.bz.at_ T.By.2 .nil aU
  (aa h1 (aa h2 (aa h3 (aa h4 (aa h5 ag s5) (by rw[s4,s5])) (by rw[s3,s4])) (by rw[s2,s3])) (by rw[s1,s2])) (by decide) (by rw[s1,s2]) (by rw[s2];rfl)
def Made(a:Ad)(H:Hp)(Q:VK)(kd tx:Str)(n pl af:Int):Prop:=∀(x:Addr)(H':Hp),aK H H'->H x=none->bY a.bL H' x kd tx n pl af->Q (.ref x) H'
theorem kE{H H1:Hp}{Q:VK}{kd tx:Str}{n pl af:Int}(h:Made a H Q kd tx n pl af)(hs:aK H H1):∀x dx,H1 x=none->H1 dx=none->dx≠x->
  kC a.bL (.ref x::([.str kd,.str tx,.int n,.int pl,.int af]++[])) (upd (upd H1 dx (.own x)) x (.ins a.bL dx [])) (fun v H2=>v=.ax/\Q (.ref x) H2) E0:=
 fun x dx n1 n2 ne=>⟨x,dx,kd,tx,n,pl,af,rfl,aw,fun H' tk kp=>⟨rfl,h x H' (hs.trans (aK.made n1 n2 kp)) (hs.free n1) tk⟩⟩
end Wale
end
section
set_option Elab.async false
set_option linter.all false
set_option maxRecDepth 100000
set_option maxHeartbeats 2000000
namespace Wale
open PySem PySem.Spec PyProof.Rows L2
open Wm
open LsWale (blanks isByte isLetter isDigit isTail valueOf isNumber DIGITWORDS wordAt oneToken KEYWORDS PLAINS isName)
variable {P:Program}{w:World}{K:PySem.W.Frag}{mg:Str->Option Value}{base:Heap}{a:Ad}
theorem Er(c:UInt8):digit (c.toNat:Int)=isDigit c:=by
 rw[Bool.eq_iff_iff,ua]
 simp only[digit,Bool.and_eq_true,decide_eq_true_eq]
 lia
theorem D4(c:UInt8):jO (c.toNat:Int)=isLetter c:=by
 rw[Bool.eq_iff_iff,sN]
 simp only[jO,Bool.and_eq_true,decide_eq_true_eq]
 lia
theorem yb(c:UInt8):kR (c.toNat:Int)=dW c:=by
 rw[Bool.eq_iff_iff]
 unfold dW
 rw[Bool.or_eq_true,GC,ua]
 simp only[kR,jO,digit,Bool.or_eq_true,Bool.and_eq_true,decide_eq_true_eq]
 lia
def cM(b:Bytes)(p:Nat):Bytes:=(b.drop p).takeWhile isDigit
def KI(K:PySem.W.Frag)(a:Ad):Sp:=fun vs H Q E=>∃(t:Addr)(b:Bytes)(p:Nat),vs=[.ref t,.int p]/\aF K H t (nums b)/\(∃c,b[p]? =some c/\isDigit c=true)/\
 (isNumber (cM b p)=true->Made a H Q "number" "" (valueOf (cM b p)) p (p+(cM b p).length:Nat))/\(isNumber (cM b p)=false->Told K a E 2 p)
theorem oK:aI ["t","place","after","number","begun_with_zero"] ["t","place"] (aB ze):=⟨rfl,rfl,rfl,by decide +kernel,rfl,by decide +kernel,by decide +kernel⟩
theorem Od:bootBuiltins "min"=some (.builtin "min"):=by kernel_rfl
theorem JP{b:Bytes}{p:Nat}{c:UInt8}(hc:b[p]? =some c)(hd:isDigit c=true):isNumber (cM b p)=true↔¬(c.toNat=48/\1<(cM b p).length)/\valueOf (cM b p)<=1048576:=by
 have h1:(cM b p).head?=some c:=by unfold cM;rw[drop_cons hc,List.takeWhile_cons,if_pos hd];rfl
 have h2:1<=(cM b p).length:=by unfold cM;rw[drop_cons hc,List.takeWhile_cons,if_pos hd,List.length_cons];lia
 unfold isNumber
 rw[h1,Bool.and_eq_true,Bool.or_eq_true,decide_eq_true_eq,beq_iff_eq,bne_iff_ne]
 have e:(some c≠some (48:UInt8))↔c.toNat≠48:=by
  rw[Ne,Option.some_inj,<-UInt8.toNat_inj];rfl
 rw[e]
 show(_/\valueOf (cM b p)<=1048576)↔_
 lia
theorem HJ(T:Tx P w K mg a):ay P w K mg base (bh P w) 4 a.qL a.qZ ["t","place"] (KI K a):=by
 refine T.Fw.fn.bx oK (fun vs H Q E h=>?_) (fun cdv A outer s H vs Q E hr h=>?_)
 ·obtain⟨_,_,_,rfl,_⟩:=h;rfl
 obtain⟨t,b,p,rfl,hS,⟨c0,hc0,hd0⟩,k1,k2⟩:=h
 have hr1:bA 1 _:=hr.mono (by decide)
 refine⟨_,ai (aY (i:=2) oK.nd rfl (Or.inl rfl) (pv 1)) (ai (aY (i:=3) oK.nd rfl (Or.inl rfl) bW) (ai (f7 hG
   (PW.pt (ky (a6 lC (pv 2) (kQ T.gB (pv 0)) (a4 _)) (mw (cX (aQ T.pQ (sU T) hr1 aU (aa (eQ fG (pv 0) (pv 2) (fun _ _=>rfl)) ag))))))
   (ai (aY (i:=3) oK.nd rfl (Or.inl rfl) (jo (Ho rfl) rfl T.IW Od (aa (cY AI (cY j0 (cY JH (pv 3) bW) (eQ fG (pv 0) (pv 2) (fun _ _=>rfl))) (cP T.vS)) (aa (cY j0 (cP T.FU) bW) ag))))
    (aj (pJ (i:=2) oK.nd rfl (Or.inl rfl) bW sk))))
  (ai (aY (i:=4) oK.nd rfl (Or.inl rfl) (Di (jy cq (eQ fG (pv 0) (pv 1) (fun _ _=>rfl)) (cP T.vS) (a4 _)) (vh (jy jU (pv 2) (cY j0 (pv 1) bW) (a4 _)))))
  (ai (a5 (PW.pt (iL (cX (pv 4)) (iZ (a6 jU (pv 3) (cP T.FU) (a4 _)))))
    (aj (eY rfl fj T.wz (Om T) T.B1.2 (hr.mono (by decide)) (pv 1))) ba)
  (aj (aN (mI T (hr.mono (by decide)) (bB T.vV) aP (pv 3) (pv 1) (pv 2)))))))),?_⟩
 refine(eX _ rfl ?_)
 refine gx (fun(i:Nat)σ H'=>H'=H/\σ=[some (.ref t),some (.int p),some (.int (p+i:Nat)),some (.int (min (valueOf ((b.drop p).take i)) 1048577:Nat)),none]/\p+i<=b.length/\i+run isDigit b (p+i)=run isDigit b p)
  (fun i=>b.length-i) 0 ⟨rfl,rfl,Nat.le_of_lt (List.getElem?_eq_some_iff.mp hc0).1,by simp⟩ ?_
 rintro i σ H' ⟨rfl,rfl,l2,e⟩
 -- behind the loop
 have fin:i=run isDigit b p->jE (vm (B3 (d6 FA (d6 (Du K) (bD 0) (bD 1)) (tC (.int 48))) (d6 (gG fun i j=>.bl (decide (j<i))) (bD 2) (d6 (gG fun i j=>.int (i+j)) (bD 1) (tC (.int 1))))) (pY 4))
   (jE (uS (tF (tB (bD 4)) (g8 (d6 (gG fun i j=>.bl (decide (j<i))) (bD 3) (tC (.int 1048576))))) (nB s.heap.objs.size K a.lF E 2 (bD 1)) sJ)
    (oS (kG a.bL (kC a.bL) [] E0 (bV (tC (.str "number")) (bV (tC (.str "")) (bV (bD 3) (bV (bD 1) (bV (bD 2) eC)))))))) {nx:=fun x H'=>Q .ax H',rt:=Q}
   [some (.ref t),some (.int p),some (.int (p+i:Nat)),some (.int (min (valueOf ((b.drop p).take i)) 1048577:Nat)),none] H':=fun hi=>by
  have hds:(b.drop p).take i=cM b p:=by rw[hi];exact vi isDigit _
  have hlen:(cM b p).length=i:=hi.symm
  rw[hds]
  have hnum:=JP hc0 hd0
  refine(eX _ rfl (eX _ rfl ⟨t,_,_,eX _ rfl ⟨rfl,hS,fO hc0,rfl,eX _ rfl ?_⟩⟩))
  rw[fS]
  -- the two ways end alike
  have done:∀z:Bool,(z=true↔(c0.toNat=48/\1<i))->jE (uS (tF (tB (bD 4)) (g8 (d6 (gG fun i j=>.bl (decide (j<i))) (bD 3) (tC (.int 1048576))))) (nB s.heap.objs.size K a.lF E 2 (bD 1)) sJ)
    (oS (kG a.bL (kC a.bL) [] E0 (bV (tC (.str "number")) (bV (tC (.str "")) (bV (bD 3) (bV (bD 1) (bV (bD 2) eC))))))) {nx:=fun x H'=>Q .ax H',rt:=Q}
    [some (.ref t),some (.int p),some (.int (p+i:Nat)),some (.int (min (valueOf (cM b p)) 1048577:Nat)),some (.bl z)] H':=fun z hz=>by
   refine(eX _ rfl (eX _ rfl ?_))
   refine aV (fun c=>?_) (fun c=>?_)
   ·refine(eX _ rfl (eA T.wz (k2 (Bool.eq_false_iff.mpr fun y=>?_))))
    rw[hnum,hlen]at y
    exact y.1 (hz.mp c)
   ·refine(eX _ rfl ⟨_,eX _ rfl ⟨rfl,eX _ rfl ?_⟩⟩)
    refine aV (fun c2=>?_) (fun c2=>?_)
    ·refine(eX _ rfl (eA T.wz (k2 (Bool.eq_false_iff.mpr fun y=>?_))))
     rw[hnum]at y
     have:=of_decide_eq_true c2
     lia
    ·have h2:¬((1048576:Int)<(min (valueOf (cM b p)) 1048577:Nat)):=fun y=>c2 (decide_eq_true y)
     have hv:valueOf (cM b p)<=1048576:=by lia
     have hm:min (valueOf (cM b p)) 1048577=valueOf (cM b p):=by lia
     rw[hm]
     refine(eX _ rfl (eX _ rfl (eX _ rfl ?_)))
     have km:=k1 (hnum.mpr ⟨fun y=>c (hz.mpr (by rw[hlen]at y;exact y)),hv⟩)
     rw[hlen]at km
     exact kE km (aK.refl _)
  refine aV (fun c=>?_) (fun c=>?_)
  ·refine(eX _ rfl (eX _ rfl ⟨_,eX _ rfl ⟨rfl,_,eX _ rfl ⟨rfl,?_⟩⟩⟩))
   refine done _ ?_
   have:=of_decide_eq_true c
   rw[decide_eq_true_eq]
   lia
  ·refine done _ ?_
   have:¬((c0.toNat:Int)=48):=fun z=>c (decide_eq_true z)
   simp
   lia
 refine(eX _ rfl (eX _ rfl ⟨t,eX _ rfl ⟨.inl hS,_,eX _ rfl ⟨rfl,eX _ rfl ?_⟩⟩⟩))
 refine aV (fun c=>?_) (fun c=>?_)
 ·rw[eZ]at c
  have lt:p+i<b.length:=by have:=of_decide_eq_true c;lia
  obtain⟨cb,hcb⟩:∃c,b[p+i]? =some c:=⟨_,List.getElem?_eq_getElem lt⟩
  have rc:=xo (f:=isDigit) hcb
  refine(eX _ rfl (eX _ rfl ⟨t,_,_,eX _ rfl ⟨rfl,hS,fO hcb,eX _ rfl (eX _ rfl ?_)⟩⟩))
  rw[Er]
  refine aV (fun c2=>?_) (fun c2=>?_)
  ·rw[if_pos c2]at rc
   refine fM ?_
   refine(eX _ rfl ⟨_,eX _ rfl ⟨rfl,.inl ⟨by lia,by lia⟩,eX _ rfl (eX _ rfl ⟨t,_,_,eX _ rfl ⟨rfl,hS,fO hcb,_,eX _ rfl ⟨rfl,_,eX _ rfl ⟨rfl,_,eX _ rfl ⟨rfl,_,eX _ rfl ?_⟩⟩⟩⟩⟩)⟩⟩)
   refine(eX _ rfl ⟨_,eX _ rfl ⟨rfl,i+1,by lia,rfl,?_,by lia,by rw[<-Nat.add_assoc];lia⟩⟩)
   have h48:=(ua cb).mp c2
   have hdr:(b.drop p)[i]? =some cb:=by rw[List.getElem?_drop];exact hcb
   rw[take_snoc hdr,Ht]
   have cs:=NQ (valueOf ((b.drop p).take i)) (cb.toNat-48)
   have e1:(if(1048576:Int)+1<(min (valueOf ((b.drop p).take i)) 1048577:Nat)*10+(cb.toNat:Int)-48 then(1048576:Int)+1 else(min (valueOf ((b.drop p).take i)) 1048577:Nat)*10+(cb.toNat:Int)-48)=
     ((min (10*valueOf ((b.drop p).take i)+(cb.toNat-48)) 1048577:Nat):Int):=by
    rw[<-cs]
    split<;>lia
   have e2:((p+i:Nat):Int)+1=((p+(i+1):Nat):Int):=by lia
   show[some (V.ref t),some (V.int p),some (V.int (((p+i:Nat):Int)+1)),_,none]=_
   rw[e2]
   exact congrArg (fun z=>[some (V.ref t),some (V.int p),some (V.int ((p+(i+1):Nat):Int)),some (V.int z),none]) e1
  ·rw[if_neg c2]at rc
   exact fin (by lia)
 ·rw[eZ]at c
  have ge:b.length<=p+i:=by
   have:¬(((p+i:Nat):Int)<b.length):=fun z=>c (decide_eq_true z)
   lia
  have rc:=za (f:=isDigit) ge
  exact fin (by lia)
end Wale
end
section
set_option Elab.async false
set_option linter.all false
set_option maxRecDepth 100000
set_option maxHeartbeats 2000000
namespace Wale
open PySem PySem.Spec PyProof.Rows L2
open Wm
open LsWale (blanks isByte isLetter isDigit isTail valueOf isNumber DIGITWORDS wordAt oneToken KEYWORDS PLAINS isName)
variable {P:Program}{w:World}{K:PySem.W.Frag}{mg:Str->Option Value}{base:Heap}{a:Ad}
theorem Hf:∀{x y:Bytes},x.map UInt8.toNat=y.map UInt8.toNat->x=y
 |[],[],_=>rfl
 |[],_::_,h=>by cases h
 |_::_,[],h=>by cases h
 |c::r,d::s,h=>by
  rw[List.map_cons,List.map_cons]at h
  obtain⟨h1,h2⟩:=List.cons.inj h
  rw[UInt8.toNat_inj.mp h1,Hf h2]
theorem pC{x y:Bytes}(h:strOf x=strOf y):x=y:=by
 unfold strOf at h
 have h1:=congrArg (fun z:Str=>z.cps.toList) h
 exact Hf h1
theorem Ek(x:Bytes):(strOf x).length=x.length:=by
 show((x.map UInt8.toNat).toArray).size=_
 rw[List.size_toArray,List.length_map]
theorem oh(x:Bytes)(l:List Bytes):dY (.str (strOf x)) ((l.map strOf).map V.str)=l.contains x:=by
 unfold dY
 induction l with
 |nil=>rfl
 |cons y r ih=>
  rw[List.map_cons,List.map_cons,List.any_cons,ih,List.contains_cons]
  congr 1
  show decide (strOf y=strOf x)=(x==y)
  rw[Bool.eq_iff_iff,decide_eq_true_eq,beq_iff_eq]
  exact⟨fun h=>(pC h).symm,fun h=>by rw[h]⟩
theorem GU:∀(l:List Str),(l.map V.str).all iM=true
 |[]=>rfl
 |_::r=>by rw[List.map_cons,List.all_cons,GU r];rfl
def oU(l:List Str)(d:Addr):R2:=fun x y H Q=>y=.ref d/\∃z,x=.str z/\Q (.bl (dY (.str z) (l.map V.str))) H
theorem Qe{X:Cx}{x:Str}{l:List Str}{d:Addr}(h:jb X.K X.mg x l d):di X (compareOp .In) (oU l d):=by
 intro pins s σ H x y u v Q I rx ry ⟨e1,z,e2,q⟩
 exact q5 pins s σ H x y u v Q I rx ry ⟨d,l.map V.str,e1,.inr (h.2 H),by rw[e2];rfl,GU l,by rw[e2];exact q⟩
theorem kZ{X:Cx}{e:Expr}{te:TE}{x:Str}{l:List Str}{d:Addr}{p pos:Pos}(h:jb X.K X.mg x l d)(he:PE X e te)(hg:Gl X x:=by rfl)(hd:(x==("__debug__":Str))=false:=by decide)(hm:behindInMarks .In (.Name x p)=false:=by with_unfolding_all rfl):
  PT X (.Compare e [.In] [.Name x p] pos) (g8 (d6 (oU l d) te (tC (.ref d)))):=a6 (Qe h) he (rD hg h.1 (show RelV (.ref d) (.ref d)from rfl) hd) hm
theorem CM:(["k","p","ktbl","ptbl","yo","k2tog","k3tog","ssk","sssk","p2tog","ssp","cdd","kfb","pfb","kp","m1l","m1r","sl","slf","pso","even","co","bo"]:List Str)=PLAINS.map strOf:=by decide +kernel
theorem JR:(["pattern","sizes","yarns","let","word","block","on","round","row","rs","ws","repeat","until","work","off","to","end","last","mark","cl","cr","hold","take","yarn","pass","clear","turn","fasten"]:List Str)=
  (KEYWORDS.take 28).map strOf:=by decide +kernel
theorem N5:(["k2tog","k3tog","p2tog","m1l","m1r"]:List Str)=DIGITWORDS.map strOf:=by decide +kernel
theorem N0:KEYWORDS=KEYWORDS.take 28++PLAINS:=by decide +kernel
theorem NH(x:Bytes):(PLAINS.contains x||(KEYWORDS.take 28).contains x)=KEYWORDS.contains x:=by
 conv=>rhs;rw[N0]
 rw[Bool.eq_iff_iff]
 simp only[Bool.or_eq_true,List.contains_iff_mem,List.mem_append]
 exact⟨fun h=>h.symm,fun h=>h.symm⟩
theorem JV:∀x∈DIGITWORDS,KEYWORDS.contains x=true:=by decide +kernel
theorem qR:strOf []=("":Str):=by decide +kernel
def Py(K:PySem.W.Frag):Sp:=fun vs H Q _=>∃(t:Addr)(b:Bytes)(p:Nat),vs=[.ref t,.int p]/\aF K H t (nums b)/\p<=b.length/\b.length<=20000/\
 ∀H',aK H H'->Q (.str (if dg (b.drop p)∈DIGITWORDS then strOf (dg (b.drop p))else "")) H'
theorem uM:aI ["t","place","after","text"] ["t","place"] (aB Aa):=⟨rfl,rfl,rfl,by decide +kernel,rfl,by decide +kernel,by decide +kernel⟩
theorem Gb{b:Bytes}{p q:Nat}(h1:p<=q)(h2:q<=b.length):jF (nums b) (some (p:Int)) (some (q:Int))=nums ((b.drop p).take (q-p)):=by
 unfold jF
 rw[eZ,HT.E4,HT.E4,show min p b.length=p by lia,show min q b.length=q by lia]
 unfold nums
 rw[List.map_take,List.map_drop]
theorem OL(T:Tx P w K mg a):ay P w K mg base aW 4 a.pb a.pz ["t","place"] (Py K):=by
 refine T.GD.fn.ok uM (fun vs H Q E h=>?_) (fun cdv A outer s H vs Q E hr h=>?_)
 ·obtain⟨_,_,_,rfl,_⟩:=h;rfl
 obtain⟨t,b,p,rfl,hS,hp,hl,k⟩:=h
 refine⟨_,ai (aY (i:=2) uM.nd rfl (Or.inl rfl) (pv 1)) (ai (f7 PassesOwn.never
   (PW.pt (ky (a6 lC (pv 2) (kQ T.gB (pv 0)) (a4 _)) (ky (a6 o1 (pv 2) (cY j0 (pv 1) (cP T.Mc)) (a4 _))
    (mw (cX (aQ T.GI (HZ T) (hr.mono (by decide)) aU (aa (eQ fG (pv 0) (pv 2) (fun _ _=>rfl)) ag)))))))
   (aj (pJ (i:=2) uM.nd rfl (Or.inl rfl) bW sk)))
  (ai (aY (i:=3) uM.nd rfl (Or.inl rfl) (aQ T.spelled (FF T) hr aU (aa (Cs DH (pv 0) (vB (pv 1)) (vB (pv 2))) ag)))
  (aj (aN (Fg (kZ T.JK (pv 3)) (pv 3) aP))))),?_⟩
 refine(eX _ rfl ?_)
 refine gx (fun(i:Nat)σ H'=>H'=H/\σ=[some (.ref t),some (.int p),some (.int (p+i:Nat)),none]/\p+i<=b.length/\i<=6/\i+run dW b (p+i)=run dW b p) (fun i=>b.length-i) 0 ⟨rfl,rfl,hp,by lia,by simp⟩ ?_
 rintro i σ H' ⟨rfl,rfl,l2,l6,e⟩
 have fin:i=min 6 (run dW b p)->jE (vm (o9 (xN K) [] E0 (bV (yr (zZ K) (bD 0) (rJ (bD 1)) (rJ (bD 2))) eC)) (pY 3))
   (oS (DQ (g8 (d6 (oU ["k2tog","k3tog","p2tog","m1l","m1r"] a.oq) (bD 3) (tC (.ref a.oq)))) (bD 3) (tC (.str "")))) {nx:=fun x H'=>Q .ax H',rt:=Q}
   [some (.ref t),some (.int p),some (.int (p+i:Nat)),none] H':=fun hi=>by
  have ei:(b.drop p).take i=dg (b.drop p):=by
   unfold dg
   rw[hi,<-vi dW (b.drop p),List.take_take]
   congr 1
  refine(eX _ rfl (eX _ rfl (eX _ rfl (eX _ rfl (eX _ rfl ⟨t,eX _ rfl ⟨hS,fun q hq=>?_⟩⟩)))))
  have sq:aK H' (upd H' q (.lst (jF (nums b) (some (p:Int)) (some ((p+i:Nat):Int))))):=fun x o e=>by rw[ak (d7 e hq)];exact e
  refine⟨q,dg (b.drop p),rfl,aF.of ?_,fun c hc=>?_,?_,fun H2 s2=>?_⟩
  ·rw[aw,Gb (by lia) l2,Nat.add_sub_cancel_left,ei]
  ·rw[yb]
   exact Fu c (List.mem_of_mem_take hc)
  ·unfold dg
   rw[List.length_take];lia
  ·refine(eX _ rfl ⟨rfl,eX _ rfl (eX _ rfl ?_)⟩)
   rw[N5,oh]
   have kk:=k H2 (sq.trans s2)
   refine aV (fun c=>?_) (fun c=>?_)
   ·rw[if_pos (List.contains_iff_mem.mp c)]at kk
    exact(eX _ rfl kk)
   ·rw[if_neg (fun z=>c (List.contains_iff_mem.mpr z))]at kk
    exact kk
 refine(eX _ rfl (eX _ rfl ⟨t,eX _ rfl ⟨.inl hS,_,eX _ rfl ⟨rfl,eX _ rfl ?_⟩⟩⟩))
 refine aV (fun c=>?_) (fun c=>?_)
 ·rw[eZ]at c
  have lt:p+i<b.length:=by have:=of_decide_eq_true c;lia
  obtain⟨cb,hcb⟩:∃c,b[p+i]? =some c:=⟨_,List.getElem?_eq_getElem lt⟩
  have rc:=xo (f:=dW) hcb
  refine(eX _ rfl (eX _ rfl ⟨_,eX _ rfl ⟨rfl,_,eX _ rfl ⟨rfl,eX _ rfl ?_⟩⟩⟩))
  refine aV (fun c2=>?_) (fun c2=>?_)
  ·have l5:i<=5:=by have:=of_decide_eq_true c2;lia
   refine(eX _ rfl (eX _ rfl ⟨t,_,_,eX _ rfl ⟨rfl,hS,fO hcb,eX _ rfl (eX _ rfl ?_)⟩⟩))
   rw[yb]
   refine aV (fun c3=>?_) (fun c3=>?_)
   ·rw[if_pos c3]at rc
    refine fM ?_
    refine(eX _ rfl ⟨_,eX _ rfl ⟨rfl,i+1,by lia,rfl,?_,by lia,by lia,by rw[<-Nat.add_assoc];lia⟩⟩)
    have e2:((p+i:Nat):Int)+1=((p+(i+1):Nat):Int):=by lia
    exact congrArg (fun z=>[some (V.ref t),some (V.int p),some (V.int z),none]) e2
   ·rw[if_neg c3]at rc
    exact fin (by lia)
  ·have l5:¬(((p+i:Nat):Int)<=p+5):=fun z=>c2 (decide_eq_true z)
   have l1:1<=run dW b (p+i)\/run dW b (p+i)=0:=by lia
   exact fin (by lia)
 ·rw[eZ]at c
  have ge:b.length<=p+i:=by
   have:¬(((p+i:Nat):Int)<b.length):=fun z=>c (decide_eq_true z)
   lia
  have rc:=za (f:=dW) ge
  exact fin (by lia)
end Wale
end
section
set_option Elab.async false
set_option linter.all false
set_option maxRecDepth 100000
set_option maxHeartbeats 2000000
namespace Wale
open PySem PySem.Spec PyProof.Rows L2
open Wm
open LsWale (blanks isByte isLetter isDigit isTail valueOf isNumber DIGITWORDS wordAt oneToken KEYWORDS PLAINS isName)
variable {P:Program}{w:World}{K:PySem.W.Frag}{mg:Str->Option Value}{base:Heap}{a:Ad}
def dP(x:Bytes):Str:=if isName x=true then "name" else "fixed"
def LR(K:PySem.W.Frag)(a:Ad):Sp:=fun vs H Q _=>∃(t:Addr)(b:Bytes)(p:Nat),vs=[.ref t,.int p]/\aF K H t (nums b)/\(∃c,b[p]? =some c/\isLetter c=true)/\b.length<=20000/\
 Made a H Q (dP (wordAt (b.drop p))) (strOf (wordAt (b.drop p))) 0 p (p+(wordAt (b.drop p)).length:Nat)
theorem rL:aI ["t","place","digit_word","after","text"] ["t","place"] (aB AN):=⟨rfl,rfl,rfl,by decide +kernel,rfl,by decide +kernel,by decide +kernel⟩
theorem cR{x y:Str}:decide (V.str x=V.str y)=decide (x=y):=by by_cases h:x=y<;>simp[h]
theorem Fm{H H1:Hp}{Q:VK}{kd tx:Str}{n pl af:Int}(h:Made a H Q kd tx n pl af)(hs:aK H H1):Made a H1 Q kd tx n pl af:=fun x H' s1 n1 tk=>h x H' (hs.trans s1) (hs.free n1) tk
theorem len_str{X:Cx}{e:Expr}{te:TE}{p pos:Pos}(hm:X.mg "len"=none)(he:PE X e te)(hg:Gl X "len":=by rfl)(hst:starEach [e] X.env=[(false,eval e X.env)]:=by rfl):
  PE X (.Call (.Name "len" p) [e] [] pos) (rZ (fun xs H Q=>∃z,xs=[.str z]/\z.length<=sizeLine/\Q (.int z.length) H) (bV te eC)):=
 jo FN hg hm PySem.boot_len (aa he ag hst) (by decide) (by decide) hst rfl
theorem Lq(c:UInt8):(jO (c.toNat:Int)||decide ((c.toNat:Int)=95))=isTail c:=by
 rw[D4,Bool.eq_iff_iff,Bool.or_eq_true,GC,sN,decide_eq_true_eq]
 lia
theorem Qn(T:Tx P w K mg a):ay P w K mg base aW 5 a.qd a.sy ["t","place"] (LR K a):=by
 refine T.Ck.fn.ok rL (fun vs H Q E h=>?_) (fun cdv A outer s H vs Q E hr h=>?_)
 ·obtain⟨_,_,_,rfl,_⟩:=h;rfl
 obtain⟨t,b,p,rfl,hS,⟨c0,hc0,hl0⟩,hl,k⟩:=h
 have hp:p<b.length:=(List.getElem?_eq_some_iff.mp hc0).1
 have hr1:bA 1 _:=hr.mono (by decide)
 refine⟨_,ai (aY (i:=2) rL.nd rfl (Or.inl rfl) (aQ T.GD (OL T) hr aU (aa (pv 0) (aa (pv 1) ag))))
  (ai (a5 (a6 lB (pv 2) aP (a4 _)) (aj (aN (mI T (hr.mono (by decide)) (bB T.zf) (pv 2) bW (pv 1) (cY j0 (pv 1) (len_str T.gB (pv 2)))))) ba)
  (ai (aY (i:=3) rL.nd rfl (Or.inl rfl) (pv 1))
  (ai (f7 PassesOwn.never (PW.pt (ky (a6 lC (pv 3) (kQ T.gB (pv 0)) (a4 _))
    (mw (PW.pt (iL (cX (aQ T.rm (vQ T) hr1 aU (aa (eQ fG (pv 0) (pv 3) (fun _ _=>rfl)) ag))) (iZ (a6 cq (eQ fG (pv 0) (pv 3) (fun _ _=>rfl)) (cP T.He) (a4 _))))))))
   (aj (pJ (i:=3) rL.nd rfl (Or.inl rfl) bW sk)))
  (ai (aY (i:=4) rL.nd rfl (Or.inl rfl) (aQ T.spelled (FF T) (hr.mono (by decide)) aU (aa (Cs DH (pv 0) (vB (pv 1)) (vB (pv 3))) ag)))
  (ai (a5 (PW.pt (iL (kZ T.BH (pv 4)) (iZ (kZ T.Qs (pv 4))))) (aj (aN (mI T (hr.mono (by decide)) (bB T.zf) (pv 4) bW (pv 1) (pv 3)))) ba)
  (aj (aN (mI T (hr.mono (by decide)) (bB T.jA) (pv 4) bW (pv 1) (pv 3))))))))),?_⟩
 refine(eX _ rfl (eX _ rfl ⟨t,b,p,rfl,hS,Nat.le_of_lt hp,hl,fun H1 s1=>?_⟩))
 have k1:=Fm k s1
 have hS1:=s1.seq hS
 refine(eX _ rfl ⟨rfl,eX _ rfl ?_⟩)
 rw[cR]
 have dc:=drop_cons hc0
 by_cases hd:dg (b.drop p)∈DIGITWORDS
 ·rw[if_pos hd]
  have hw:=Fn hd
  rw[hw]at k1
  have ne:¬strOf (dg (b.drop p))="":=fun z=>by
   rw[<-qR]at z
   have z1:=pC z
   have:=(gT _ hd).2.2
   rw[z1]at this
   simp at this
  refine aV (fun c=>?_) (fun c=>?_)
  ·have kf:dP (dg (b.drop p))="fixed":=by
    unfold dP isName
    rw[JV _ hd];rfl
   rw[kf]at k1
   have l5:=(gT _ hd).2.1
   refine(eX _ rfl (eX _ rfl (eX _ rfl (eX _ rfl (eX _ rfl ⟨by rw[Ek,sizeLine_eq];lia,_,eX _ rfl ⟨rfl,?_⟩⟩)))))
   rw[show((p+(dg (b.drop p)).length:Nat):Int)=(p:Int)+((strOf (dg (b.drop p))).length:Nat) by rw[Ek];lia]at k1
   exact kE k1 (aK.refl _)
  ·exact absurd (by simpa using c) ne
 rw[if_neg hd]
 refine aV (fun c=>absurd c (by decide)) (fun c=>?_)
 have hw:wordAt (b.drop p)=(b.drop p).takeWhile isTail:=by
  rw[dc]at hd ⊢
  exact D3 hd hl0
 rw[hw]at k1
 refine(eX _ rfl ?_)
 refine gx (fun(i:Nat)σ H'=>H'=H1/\σ=[some (.ref t),some (.int p),some (.str ""),some (.int (p+i:Nat)),none]/\p+i<=b.length/\i+run isTail b (p+i)=run isTail b p) (fun i=>b.length-i) 0
  ⟨rfl,rfl,Nat.le_of_lt hp,by simp⟩ ?_
 rintro i σ H' ⟨rfl,rfl,l2,e⟩
 have fin:i=run isTail b p->jE (vm (o9 (xN K) [] E0 (bV (yr (zZ K) (bD 0) (rJ (bD 1)) (rJ (bD 3))) eC)) (pY 4))
   (jE (uS (tF (g8 (d6 (oU ["k","p","ktbl","ptbl","yo","k2tog","k3tog","ssk","sssk","p2tog","ssp","cdd","kfb","pfb","kp","m1l","m1r","sl","slf","pso","even","co","bo"] a.nT) (bD 4) (tC (.ref a.nT))))
     (g8 (d6 (oU ["pattern","sizes","yarns","let","word","block","on","round","row","rs","ws","repeat","until","work","off","to","end","last","mark","cl","cr","hold","take","yarn","pass","clear","turn","fasten"] a.nz) (bD 4) (tC (.ref a.nz)))))
    (oS (kG a.bL (kC a.bL) [] E0 (bV (tC (.str "fixed")) (bV (bD 4) (bV (tC (.int 0)) (bV (bD 1) (bV (bD 3) eC))))))) sJ)
    (oS (kG a.bL (kC a.bL) [] E0 (bV (tC (.str "name")) (bV (bD 4) (bV (tC (.int 0)) (bV (bD 1) (bV (bD 3) eC)))))))) {nx:=fun x H'=>Q .ax H',rt:=Q}
   [some (.ref t),some (.int p),some (.str ""),some (.int (p+i:Nat)),none] H':=fun hi=>by
  have ei:(b.drop p).take i=(b.drop p).takeWhile isTail:=by rw[hi];exact vi isTail _
  have ln:((b.drop p).takeWhile isTail).length=i:=hi.symm
  refine(eX _ rfl (eX _ rfl (eX _ rfl (eX _ rfl (eX _ rfl ⟨t,eX _ rfl ⟨hS1,fun q hq=>?_⟩⟩)))))
  have sq:aK H' (upd H' q (.lst (jF (nums b) (some (p:Int)) (some ((p+i:Nat):Int))))):=fun x o e=>by rw[ak (d7 e hq)];exact e
  refine⟨q,(b.drop p).takeWhile isTail,rfl,aF.of ?_,fun c hc=>?_,?_,fun H2 s2=>?_⟩
  ·rw[aw,Gb (by lia) l2,Nat.add_sub_cancel_left,ei]
  ·rw[yb]
   unfold dW
   rw[Fu c hc];rfl
  ·rw[ln];lia
  ·have k2:=Fm k1 (sq.trans s2)
   rw[ln]at k2
   refine(eX _ rfl ⟨rfl,eX _ rfl (eX _ rfl ?_)⟩)
   rw[CM,oh]
   have ko:=NH ((b.drop p).takeWhile isTail)
   refine aV (fun c=>?_) (fun c=>?_)
   ·rw[c,Bool.true_or]at ko
    have kf:dP ((b.drop p).takeWhile isTail)="fixed":=by unfold dP isName;rw[<-ko];rfl
    rw[kf]at k2
    exact(eX _ rfl (eX _ rfl (eX _ rfl (kE k2 (aK.refl _)))))
   ·rw[Bool.eq_false_iff.mpr c,Bool.false_or]at ko
    refine(eX _ rfl ⟨rfl,eX _ rfl (eX _ rfl ?_)⟩)
    rw[JR,oh]
    refine aV (fun c2=>?_) (fun c2=>?_)
    ·rw[c2]at ko
     have kf:dP ((b.drop p).takeWhile isTail)="fixed":=by unfold dP isName;rw[<-ko];rfl
     rw[kf]at k2
     exact(eX _ rfl (eX _ rfl (eX _ rfl (kE k2 (aK.refl _)))))
    ·rw[Bool.eq_false_iff.mpr c2]at ko
     have kf:dP ((b.drop p).takeWhile isTail)="name":=by unfold dP isName;rw[<-ko];rfl
     rw[kf]at k2
     exact(eX _ rfl (eX _ rfl (eX _ rfl (kE k2 (aK.refl _)))))
 refine(eX _ rfl (eX _ rfl ⟨t,eX _ rfl ⟨.inl hS1,_,eX _ rfl ⟨rfl,eX _ rfl ?_⟩⟩⟩))
 refine aV (fun c=>?_) (fun c=>?_)
 ·rw[eZ]at c
  have lt:p+i<b.length:=by have:=of_decide_eq_true c;lia
  obtain⟨cb,hcb⟩:∃c,b[p+i]? =some c:=⟨_,List.getElem?_eq_getElem lt⟩
  have rc:=xo (f:=isTail) hcb
  have lt2:=Lq cb
  have nxt:isTail cb=true->∃j,b.length-j<b.length-i/\(H'=H'/\[some (V.ref t),some (V.int p),some (.str ""),some (V.int (((p+i:Nat):Int)+1)),none]=[some (.ref t),some (.int p),some (.str ""),some (.int (p+j:Nat)),none]/\p+j<=b.length/\j+run isTail b (p+j)=run isTail b p):=fun ht=>by
   rw[if_pos ht]at rc
   refine⟨i+1,by lia,rfl,?_,by lia,by rw[<-Nat.add_assoc];lia⟩
   have e2:((p+i:Nat):Int)+1=((p+(i+1):Nat):Int):=by lia
   exact congrArg (fun z=>[some (V.ref t),some (V.int p),some (.str ""),some (V.int z),none]) e2
  refine(eX _ rfl (eX _ rfl ⟨t,_,_,eX _ rfl ⟨rfl,hS1,fO hcb,eX _ rfl (eX _ rfl ?_)⟩⟩))
  refine aV (fun c2=>?_) (fun c2=>?_)
  ·rw[c2,Bool.true_or]at lt2
   exact fM ⟨_,rfl,_,_,rfl,rfl,nxt lt2.symm⟩
  ·rw[Bool.eq_false_iff.mpr c2,Bool.false_or]at lt2
   refine(eX _ rfl (eX _ rfl ⟨t,_,_,eX _ rfl ⟨rfl,hS1,fO hcb,rfl,eX _ rfl ?_⟩⟩))
   rw[fS,lt2]
   refine aV (fun c3=>fM ⟨_,rfl,_,_,rfl,rfl,nxt c3⟩) (fun c3=>?_)
   rw[if_neg c3]at rc
   exact fin (by lia)
 ·rw[eZ]at c
  have ge:b.length<=p+i:=by
   have:¬(((p+i:Nat):Int)<b.length):=fun z=>c (decide_eq_true z)
   lia
  have rc:=za (f:=isTail) ge
  exact fin (by lia)
end Wale
end
section
set_option Elab.async false
set_option linter.all false
set_option maxRecDepth 100000
set_option maxHeartbeats 2000000
namespace Wale
open PySem PySem.Spec PyProof.Rows L2
open Wm
open LsWale (blanks isByte isLetter isDigit isTail valueOf isNumber DIGITWORDS wordAt oneToken KEYWORDS PLAINS isName)
variable {P:Program}{w:World}{K:PySem.W.Frag}{mg:Str->Option Value}{base:Heap}{a:Ad}
def C1(kvs:List (Key×V))(d:Addr):R2:=fun x y H Q=>y=.ref d/\∃k:Key,x=kV k/\Q (.bl (bR kvs k).isSome) H
theorem Nd{X:Cx}{kvs:List (Key×V)}{d:Addr}(h:k6 X.prog X.w X.K d kvs):di X (compareOp .In) (C1 kvs d):=by
 intro pins s σ H x y u v Q I rx ry ⟨e1,k,e2,q⟩
 subst e1 e2
 obtain rfl:v=Value.ref d:=ry
 obtain⟨vs,rel,dd⟩:=h.ok s.heap I.bp
 refine wpAny_in_of (mf rx) h.ns dd.mapOf ?_
 rw[<-(rel.val k).t6]
 exact⟨.bl (bR kvs k).isSome,H,I.tok _,rfl,q⟩
theorem Kt{X:Cx}{e:Expr}{te:TE}{x:Str}{kvs:List (Key×V)}{d:Addr}{p pos:Pos}(h:X.mg x=some (.ref d)/\k6 X.prog X.w X.K d kvs)(he:PE X e te)(hg:Gl X x:=by rfl)(hd:(x==("__debug__":Str))=false:=by decide)(hm:behindInMarks .In (.Name x p)=false:=by with_unfolding_all rfl):
  PT X (.Compare e [.In] [.Name x p] pos) (g8 (d6 (C1 kvs d) te (tC (.ref d)))):=a6 (Nd h.2) he (rD hg h.1 (show RelV (.ref d) (.ref d)from rfl) hd) hm
def HM(kvs:List (Key×V))(ti:TE):TE:=fun σ H Q=>ti σ H fun y H1=>∃k v,y=kV k/\bR kvs k=some v/\Q v H1
theorem CH{X:Cx}{i:Expr}{ti:TE}{x:Str}{kvs:List (Key×V)}{d:Addr}{p pos:Pos}(h:X.mg x=some (.ref d)/\k6 X.prog X.w X.K d kvs)(hi:PE X i ti)(hs:GV i)(hg:Gl X x:=by rfl)(hd:(x==("__debug__":Str))=false:=by decide):
  PE X (.Subscript (.Name x p) i pos) (HM kvs ti):=by
 intro pins s σ H Q I hh
 refine Lv PySem.F.slot_dict_getitem.lookup hs (jg I hg h.1 (aJ (hi pins s σ H _ I hh) fun iv s2 hh1=>?_) hd)
 obtain⟨y,H2,I2,ry,k,v,ey,ev,q⟩:=hh1
 subst ey
 obtain⟨vs,rel,dd⟩:=h.2.ok s2.heap I2.bp
 obtain⟨w',hw,rw'⟩:=dk.some_of (v:=v) (o:=valueAt vs k) (by rw[<-ev];exact rel.val k)
 refine⟨?_,wpAny_getItem_of (mf ry) dd.mapOf hw ⟨v,H2,I2.tok _,rw',q⟩⟩
 obtain⟨ob,_,_,h1,h2,_⟩:=dd
 exact⟨ob,h1,h2.1⟩
def fo:LsWale.Tok->Str
 | .word x=>dP x
 | .num _=>"number"
 | .sign _=>"fixed"
 | .bad _=>""
 | .done=>"end"
def bo:LsWale.Tok->Str
 | .word x=>strOf x
 | .sign c=>strOf [c]
 |_=>""
def Ai:LsWale.Tok->Nat
 | .num n=>n
 |_=>0
def JY(K:PySem.W.Frag)(a:Ad):Sp:=fun vs H Q E=>∃(t:Addr)(b:Bytes)(p:Nat),vs=[.ref t,.int p]/\aF K H t (nums b)/\p<=b.length/\b.length<=20000/\
 ((∀k,ao b p≠ .bad k)->Made a H Q (fo (ao b p)) (bo (ao b p)) (Ai (ao b p)) (aS b p:Nat) (az b p:Nat))/\∀k,ao b p=.bad k->Told K a E k (aS b p:Nat)
theorem zX:aI ["t","start","place","byte"] ["t","start"] (aB zO):=⟨rfl,rfl,rfl,by decide +kernel,rfl,by decide +kernel,by decide +kernel⟩
abbrev FI:List (Key×V):=[(.inl 40,.str "("),(.inl 41,.str ")"),(.inl 42,.str "*"),(.inl 43,.str "+"),(.inl 44,.str ","),(.inl 45,.str "-"),(.inl 47,.str "/"),(.inl 59,.str ";"),(.inl 61,.str "="),(.inl 91,.str "["),(.inl 93,.str "]"),(.inl 123,.str "{"),(.inl 125,.str "}")]
theorem IE:∀n:Nat,n<256->bR FI (.inl (n:Int))=if LsWale.SIGNS.contains (UInt8.ofNat n)=true then some (.str (strOf [UInt8.ofNat n]))else none:=by decide +kernel
theorem signs_at(c:UInt8):bR FI (.inl (c.toNat:Int))=if LsWale.SIGNS.contains c=true then some (.str (strOf [c]))else none:=by
 have:=IE c.toNat c.toNat_lt
 rw[UInt8.ofNat_toNat]at this
 exact this
theorem OB(T:Tx P w K mg a):ay P w K mg base (bh P w) 6 a.qh a.qv ["t","start"] (JY K a):=by
 refine T.ET.fn.bx zX (fun vs H Q E h=>?_) (fun cdv A outer s H vs Q E hr h=>?_)
 ·obtain⟨_,_,_,rfl,_⟩:=h;rfl
 obtain⟨t,b,p,rfl,hS,hp,hl,k1,k2⟩:=h
 have hr1:bA 1 _:=hr.mono (by decide)
 refine⟨_,ai (aY (i:=2) zX.nd rfl (Or.inl rfl) (aQ T.Cu (PQ T) hr au (aa (pv 0) (aa (pv 1) ag))))
  (ai (a5 (a6 cq (pv 2) (kQ T.gB (pv 0)) (a4 _)) (aj (aN (mI T (hr.mono (by decide)) (bB T.BQ) aP bW (pv 2) (pv 2)))) ba)
  (ai (aY (i:=3) zX.nd rfl (Or.inl rfl) (eQ fG (pv 0) (pv 2) (fun _ _=>rfl)))
  (ai (a5 (cX (aQ T.rm (vQ T) hr1 aU (aa (pv 3) ag))) (aj (aN (aQ T.Ck (Qn T) hr aU (aa (pv 0) (aa (pv 2) ag))))) ba)
  (ai (a5 (cX (aQ T.pQ (sU T) hr1 aU (aa (pv 3) ag))) (aj (aN (aQ T.Fw (HJ T) (hr.mono (by decide)) au (aa (pv 0) (aa (pv 2) ag))))) ba)
  (ai (a5 (Kt T.Fh (pv 3)) (aj (aN (mI T (hr.mono (by decide)) (bB T.zf) (CH T.Fh (pv 3) (fun _ _=>rfl)) bW (pv 2) (cY j0 (pv 2) bW)))) ba)
  (aj (eY rfl fj T.pT (EL T) T.vY.2 (hr.mono (by decide)) (pv 2)))))))),?_⟩
 refine(eX _ rfl (eX _ rfl ⟨t,b,p,rfl,hS,hp,?_,fun c hc hb=>?_⟩))
 rotate_left
 ·refine k2 1 ?_
  unfold ao
  rw[drop_cons hc]
  have hnb:¬(c.toNat=10\/(32<=c.toNat/\c.toNat<=126)):=fun z=>by rw[(oa c).mpr z]at hb;cases hb
  unfold oneToken
  have nl:¬isLetter c=true:=fun z=>hnb (.inr (by have:=(sN c).mp z;lia))
  have nd:¬isDigit c=true:=fun z=>hnb (.inr (by have:=(ua c).mp z;lia))
  have ns:¬LsWale.SIGNS.contains c=true:=fun z=>by
   have:∀n:Nat,n<256->LsWale.SIGNS.contains (UInt8.ofNat n)=true->32<=n/\n<=126:=by decide +kernel
   have:=this c.toNat c.toNat_lt
   rw[UInt8.ofNat_toNat]at this
   exact hnb (.inr (this z))
  dsimp only
  rw[if_neg nl,if_neg nd,if_neg ns]
 have le:=Gr hp
 refine(eX _ rfl (eX _ rfl ⟨t,eX _ rfl ⟨.inl hS,rfl,eX _ rfl ?_⟩⟩))
 rw[fS,eZ]
 refine aV (fun c=>?_) (fun c=>?_)
 ·have ge:b.length<=aS b p:=by have:=of_decide_eq_true c;lia
  have e1:ao b p=.done:=by unfold ao;rw[uN ge];rfl
  have e2:az b p=aS b p:=by unfold az;rw[uN ge];rfl
  have km:=k1 (fun k z=>by rw[e1]at z;cases z)
  rw[e1,e2]at km
  exact(eX _ rfl (eX _ rfl (kE km (aK.refl _))))
 ·have lt:aS b p<b.length:=by
   have:¬(((aS b p:Nat):Int)=b.length):=fun z=>c (decide_eq_true z)
   lia
  obtain⟨cb,hcb⟩:∃c,b[aS b p]? =some c:=⟨_,List.getElem?_eq_getElem lt⟩
  have dc:=drop_cons hcb
  have eo:oneToken (b.drop (aS b p))=if isLetter cb=true then(.word (wordAt (b.drop (aS b p))),(wordAt (b.drop (aS b p))).length)else if isDigit cb=true then(if isNumber (cM b (aS b p))=true then(.num (valueOf (cM b (aS b p))),(cM b (aS b p)).length)else(.bad 2,0))
    else if LsWale.SIGNS.contains cb=true then(.sign cb,1)else(.bad 1,0):=by
   unfold cM
   rw[dc];rfl
  refine(eX _ rfl (eX _ rfl ⟨t,_,_,eX _ rfl ⟨rfl,hS,fO hcb,?_⟩⟩))
  refine(eX _ rfl (eX _ rfl (eX _ rfl ?_)))
  rw[D4]
  refine aV (fun c1=>?_) (fun c1=>?_)
  ·rw[if_pos c1]at eo
   have e1:ao b p=.word (wordAt (b.drop (aS b p))):=by unfold ao;rw[eo]
   have e2:az b p=aS b p+(wordAt (b.drop (aS b p))).length:=by unfold az;rw[eo]
   have km:=k1 (fun k z=>by rw[e1]at z;cases z)
   rw[e1,e2]at km
   exact(eX _ rfl (eX _ rfl ⟨t,b,aS b p,rfl,hS,⟨cb,hcb,c1⟩,hl,km⟩))
  rw[if_neg c1]at eo
  refine(eX _ rfl (eX _ rfl (eX _ rfl ?_)))
  rw[Er]
  refine aV (fun c2=>?_) (fun c2=>?_)
  ·rw[if_pos c2]at eo
   refine(eX _ rfl (eX _ rfl ⟨t,b,aS b p,rfl,hS,⟨cb,hcb,c2⟩,fun hn=>?_,fun hn=>?_⟩))
   ·rw[if_pos hn]at eo
    have e1:ao b p=.num (valueOf (cM b (aS b p))):=by unfold ao;rw[eo]
    have e2:az b p=aS b p+(cM b (aS b p)).length:=by unfold az;rw[eo]
    have km:=k1 (fun k z=>by rw[e1]at z;cases z)
    rw[e1,e2]at km
    exact km
   ·rw[if_neg (by rw[hn];decide)]at eo
    exact k2 2 (by unfold ao;rw[eo])
  rw[if_neg c2]at eo
  refine(eX _ rfl ⟨rfl,.inl (cb.toNat:Int),rfl,eX _ rfl ?_⟩)
  rw[signs_at]
  by_cases hs:LsWale.SIGNS.contains cb=true
  ·rw[if_pos hs]
   rw[if_pos hs]at eo
   have e1:ao b p=.sign cb:=by unfold ao;rw[eo]
   have e2:az b p=aS b p+1:=by unfold az;rw[eo]
   have km:=k1 (fun k z=>by rw[e1]at z;cases z)
   rw[e1,e2]at km
   refine(eX _ rfl ⟨.inl (cb.toNat:Int),.str (strOf [cb]),rfl,(by rw[signs_at,if_pos hs]),eX _ rfl (eX _ rfl ⟨_,eX _ rfl ⟨rfl,?_⟩⟩)⟩)
   exact kE km (aK.refl _)
  ·rw[if_neg hs]
   rw[if_neg hs]at eo
   exact(eX _ rfl (eA T.pT (k2 1 (by unfold ao;rw[eo]))))
end Wale
end
section
set_option linter.all false
namespace Wm
open LsWale
abbrev ae(b:Bytes)(p:Nat)(e:Env):St:=⟨toks b p,e⟩
theorem d9(b:Bytes)(p:Nat)(e:Env):(ae b p e).ts=⟨aS b p,ao b p⟩::behind (ao b p) (toks b (az b p)):=vP b p
theorem jN(b:Bytes)(p:Nat)(e:Env):(ae b p e).place=aS b p:=by unfold St.place;rw[d9]
theorem cK{b:Bytes}{p:Nat}{e:Env}(h:cO (ao b p)=true):(ae b p e).next=ae b (az b p) e:=by
 unfold St.next
 rw[d9,oC h]
 rfl
theorem CV{α:Type}[BEq α][LawfulBEq α][DecidableEq α](x y:α):(x==y)=decide (x=y):=by
 rw[Bool.eq_iff_iff,beq_iff_eq,decide_eq_true_eq]
theorem mK(b:Bytes)(p:Nat)(e:Env)(w:String):(ae b p e).isWord w=decide (ao b p=.word (ascii w)):=by
 unfold St.isWord
 rw[d9]
 cases ao b p<;>simp[CV]
theorem gA(b:Bytes)(p:Nat)(e:Env)(c:Char):(ae b p e).isSign c=decide (ao b p=.sign (UInt8.ofNat c.toNat)):=by
 unfold St.isSign
 rw[d9]
 cases ao b p<;>simp[CV]
theorem vf(b:Bytes)(p:Nat)(e:Env):(ae b p e).sums=match ao b p with
  | .num _=>true
  | .word x=>isName x
  |t=>decide (t=.sign 40):=by
 unfold St.sums
 rw[d9]
 have hs:=gA b p e '('
 cases h:ao b p<;>simp only[]<;>rw[hs,h]<;>rfl
theorem PL{α:Type}(b:Bytes)(p:Nat)(e:Env):(wanted (ae b p e):Except Fault α)=.error ⟨match ao b p with| .bad k=>k|_=>3,aS b p⟩:=by
 unfold wanted
 rw[d9]
 cases ao b p<;>rfl
theorem fC{α:Type}{b:Bytes}{p:Nat}{e:Env}(h:∀k,ao b p≠ .bad k):(wanted (ae b p e):Except Fault α)=.error ⟨3,aS b p⟩:=by
 rw[PL]
 cases q:ao b p with
 |bad k=>exact absurd q (h k)
 |_=>rfl
def HB(s:St)(k pl:Nat):Prop:=∃r,s.ts=⟨pl,.bad k⟩::r
theorem Ll{b:Bytes}{p k:Nat}{e:Env}(h:ao b p=.bad k):HB (ae b p e) k (aS b p):=⟨_,by rw[d9,h]⟩
def bJ{α:Type}(r:Except Fault (α×St))(k pl:Nat):Prop:=r=.error ⟨k,pl⟩\/∃x s,r=.ok (x,s)/\HB s k pl
def CC(r:Except Fault St)(k pl:Nat):Prop:=r=.error ⟨k,pl⟩\/∃s,r=.ok s/\HB s k pl
theorem dD{α:Type}{x:α}{s:St}{k pl:Nat}(h:HB s k pl):bJ (.ok (x,s)) k pl:=.inr ⟨x,s,rfl,h⟩
theorem bJ.bind{α β:Type}{r:Except Fault (α×St)}{f:α×St->Except Fault (β×St)}{k pl:Nat}(h:bJ r k pl)(hf:∀x s,HB s k pl->bJ (f (x,s)) k pl):bJ (r>>=f) k pl:=by
 rcases h with h|⟨x,s,h,hb⟩
 ·rw[h];exact .inl rfl
 ·rw[h];exact hf x s hb
theorem CC.bind{β:Type}{r:Except Fault St}{f:St->Except Fault (β×St)}{k pl:Nat}(h:CC r k pl)(hf:∀s,HB s k pl->bJ (f s) k pl):bJ (r>>=f) k pl:=by
 rcases h with h|⟨s,h,hb⟩
 ·rw[h];exact .inl rfl
 ·rw[h];exact hf s hb
theorem bJ.map{α β:Type}{r:Except Fault (α×St)}{f:α×St->β×St}{k pl:Nat}(h:bJ r k pl)(hf:∀x s,(f (x,s)).2=s):bJ (r.map f) k pl:=by
 rcases h with h|⟨x,s,h,hb⟩
 ·rw[h];exact .inl rfl
 ·rw[h]
  refine .inr ⟨(f (x,s)).1,s,?_,hb⟩
  show Except.ok (f (x,s))=_
  exact congrArg Except.ok (Prod.ext rfl (hf x s))
section
variable {s:St}{k pl:Nat}
theorem ly{α:Type}(h:HB s k pl):(wanted s:Except Fault α)=.error ⟨k,pl⟩:=by
 obtain⟨r,h⟩:=h
 unfold wanted;rw[h]
theorem gY(h:HB s k pl)(w:String):s.isWord w=false:=by obtain⟨r,h⟩:=h;unfold St.isWord;rw[h]
theorem f9(h:HB s k pl)(c:Char):s.isSign c=false:=by obtain⟨r,h⟩:=h;unfold St.isSign;rw[h]
theorem F8(h:HB s k pl):s.sums=false:=by
 have q:=f9 h '('
 obtain⟨r,h⟩:=h
 unfold St.sums;rw[h];exact q
theorem vM(h:HB s k pl)(c:Char):eatSign c s=.error ⟨k,pl⟩:=by unfold eatSign;rw[if_neg (by rw[f9 h];decide),ly h]
theorem BD(h:HB s k pl)(w:String):eatWord w s=.error ⟨k,pl⟩:=by unfold eatWord;rw[if_neg (by rw[gY h];decide),ly h]
theorem xw(h:HB s k pl)(c:Char)(d:Nat):eatOpen c d s=.error ⟨k,pl⟩:=by unfold eatOpen;rw[if_pos (f9 h c),ly h]
theorem qo(h:HB s k pl):anyName s=.error ⟨k,pl⟩:=by
 unfold anyName
 have q:=ly (α:=Bytes×St) h
 obtain⟨r,h⟩:=h
 rw[h];exact q
theorem Hj(h:HB s k pl)(l:List Bytes):oldName l s=.error ⟨k,pl⟩:=by unfold oldName;rw[qo h];rfl
theorem Lp(h:HB s k pl)(m n:Nat)(l:List Bytes):newName m n s l=.error ⟨k,pl⟩:=by unfold newName;rw[qo h];rfl
theorem JN(h:HB s k pl):markName s=.error ⟨k,pl⟩:=by unfold markName;rw[qo h];rfl
theorem Ql(h:HB s k pl):holdName s=.error ⟨k,pl⟩:=by unfold holdName;rw[qo h];rfl
theorem HA(h:HB s k pl):wideAt s=.error ⟨k,pl⟩:=by
 unfold wideAt
 have q:=ly (α:=Nat×St) h
 obtain⟨r,h⟩:=h
 rw[h];exact q
theorem KQ(h:HB s k pl)(d:Nat):bg .fact d s=.error ⟨k,pl⟩:=by
 have q:=xw h '(' d
 obtain⟨r,h⟩:=h
 rw[EW (by intro p n r' z;rw[h]at z;cases z) (by intro p n r' z;rw[h]at z;cases z),q];rfl
theorem An(h:HB s k pl)(a:Sum)(d:Nat):bg (.sumRest a) d s=.ok (a,s):=by rw[Bt,f9 h,f9 h];rfl
theorem xa(h:HB s k pl)(a:Sum)(d:Nat):bg (.prodRest a) d s=.ok (a,s):=by rw[En,f9 h,f9 h];rfl
theorem KR(h:HB s k pl)(d:Nat):jq d s=.ok (.once,s):=by rw[uT,gY h,F8 h];rfl
theorem B4(h:HB s k pl):unitAt s=.error ⟨k,pl⟩:=by
 unfold unitAt
 have q:=ly (α:=Unit_×St) h
 obtain⟨r,h⟩:=h
 rw[h];exact q
theorem Ib(h:HB s k pl):loneAt s=none:=by unfold loneAt;simp only[gY h];rfl
theorem BZ(h:HB s k pl)(d:Nat):fK d s=.error ⟨k,pl⟩:=by
 unfold fK gw
 rw[Ib h,f9 h,B4 h];rfl
theorem PX(h:HB s k pl)(d:Nat):cU d s=.error ⟨k,pl⟩:=by rw[xp,BZ h];rfl
theorem Kl(h:HB s k pl)(d:Nat):eM d s=none:=by unfold eM fg;simp only[gY h];rfl
theorem BF(h:HB s k pl)(d:Nat):cS d s=.ok (.nil,s):=by rw[yG,Kl h]
theorem Kg(h:HB s k pl):ef s=none:=by unfold ef gc;simp only[gY h];rfl
theorem Nl(h:HB s k pl):jz s=.ok ([],s):=by rw[we,Kg h]
end
def wf:Tok->Bool
 | .word x=>(match x with|c::_=>isLetter c|[]=>false)
 | .sign c=>SIGNS.contains c
 |_=>true
theorem HX{c:UInt8}{r:Bytes}(h:isLetter c=true):∃r',wordAt (c::r)=c::r':=by
 by_cases hd:dg (c::r)∈DIGITWORDS
 ·rw[Fn hd]
  unfold dg
  have ht:dW c=true:=by unfold dW isTail;rw[h];rfl
  rw[List.takeWhile_cons,if_pos ht,List.take_succ_cons]
  exact⟨_,rfl⟩
 ·rw[D3 hd h]
  have ht:isTail c=true:=by unfold isTail;rw[h];rfl
  rw[List.takeWhile_cons,if_pos ht]
  exact⟨_,rfl⟩
theorem J5(b:Bytes):wf (oneToken b).1=true:=by
 cases b with
 |nil=>rfl
 |cons c r=>
  unfold oneToken
  dsimp only
  by_cases hl:isLetter c=true
  ·rw[if_pos hl]
   obtain⟨r',e⟩:=HX (r:=r) hl
   show wf (.word (wordAt (c::r)))=true
   rw[e];exact hl
  ·rw[if_neg hl]
   by_cases hd:isDigit c=true
   ·rw[if_pos hd];split<;>rfl
   ·rw[if_neg hd]
    by_cases hs:SIGNS.contains c=true
    ·rw[if_pos hs];exact hs
    ·rw[if_neg hs];rfl
theorem yh(b:Bytes)(p:Nat):wf (ao b p)=true:=J5 _
end Wm
end
section
set_option linter.all false
namespace Wm
open LsWale
def cZ(e e':Env):Prop:=e'.sizes=e.sizes/\e'.yarns=e.yarns/\e'.lets=e.lets/\e'.words=e.words/\e'.blocks=e.blocks
theorem cZ.refl(e:Env):cZ e e:=⟨rfl,rfl,rfl,rfl,rfl⟩
theorem cZ.trans{a b c:Env}(h:cZ a b)(g:cZ b c):cZ a c:=
 ⟨g.1.trans h.1,g.2.1.trans h.2.1,g.2.2.1.trans h.2.2.1,g.2.2.2.1.trans h.2.2.2.1,g.2.2.2.2.trans h.2.2.2.2⟩
def Ke{α:Type}(e:Env)(r:Except Fault (α×St)):Prop:=∀x s,r=.ok (x,s)->cZ e s.env
def dM(e:Env)(r:Except Fault St):Prop:=∀s,r=.ok s->cZ e s.env
theorem lu{α:Type}{e:Env}{f:Fault}:Ke e (.error f:Except Fault (α×St)):=fun _ _ h=>by cases h
theorem bM{α:Type}{e:Env}{x:α}{s:St}(h:cZ e s.env):Ke e (.ok (x,s)):=fun _ _ q=>by cases q;exact h
theorem ke{α:Type}{e:Env}{s:St}:Ke e (wanted s:Except Fault (α×St)):=by
 obtain⟨f,h⟩:=jr (α:=α×St) s
 rw[h];exact lu
theorem Ke.bind{α β:Type}{e:Env}{r:Except Fault (α×St)}{f:α×St->Except Fault (β×St)}(h:∀x s,r=.ok (x,s)->Ke e (f (x,s))):Ke e (r>>=f):=by
 cases r with
 |error e=>exact lu
 |ok p=>obtain⟨x,s⟩:=p;exact h x s rfl
theorem dM.bind{β:Type}{e:Env}{r:Except Fault St}{f:St->Except Fault (β×St)}(h:∀s,r=.ok s->Ke e (f s)):Ke e (r>>=f):=by
 cases r with
 |error e=>exact lu
 |ok s=>exact h s rfl
theorem Ke.mono{α:Type}{e e':Env}{r:Except Fault (α×St)}(h:Ke e' r)(g:cZ e e'):Ke e r:=fun x s q=>g.trans (h x s q)
theorem iA{c:Char}{s:St}:dM s.env (eatSign c s):=by
 intro t h
 unfold eatSign at h
 split at h
 ·cases h;exact .refl _
 ·obtain⟨e,q⟩:=jr (α:=St) s;rw[q]at h;cases h
theorem Ij{c:String}{s:St}:dM s.env (eatWord c s):=by
 intro t h
 unfold eatWord at h
 split at h
 ·cases h;exact .refl _
 ·obtain⟨e,q⟩:=jr (α:=St) s;rw[q]at h;cases h
theorem tW{c:Char}{d:Nat}{s:St}:dM s.env (eatOpen c d s):=by
 intro t h
 unfold eatOpen at h
 split at h
 ·obtain⟨e,q⟩:=jr (α:=St) s;rw[q]at h;cases h
 ·split at h
  ·cases h
  ·cases h;exact .refl _
theorem xX{s:St}:Ke s.env (anyName s):=by
 unfold anyName
 split
 ·split
  ·exact bM (.refl _)
  ·exact ke
 ·exact ke
theorem sX{l:List Bytes}{s:St}:Ke s.env (oldName l s):=by
 unfold oldName
 refine Ke.bind fun x t e=>?_
 have:=xX x t e
 dsimp only
 split
 ·exact lu
 ·exact bM this
theorem vH{s:St}:Ke s.env (markName s):=by
 unfold markName
 refine Ke.bind fun x t e=>?_
 have:=xX x t e
 dsimp only
 split
 ·exact bM this
 ·split
  ·exact lu
  ·exact bM this
theorem D9{s:St}:Ke s.env (holdName s):=by
 unfold holdName
 refine Ke.bind fun x t e=>?_
 have:=xX x t e
 dsimp only
 split
 ·exact bM this
 ·split
  ·exact lu
  ·exact bM this
theorem fL:∀(f:Nat)(lv:Level)(d:Nat)(s:St),Ke s.env (sumAt f lv d s)
 |0,lv,d,s=>by rw[sumAt];exact ke
 |f+1,.sum,d,s=>by
  rw[sumAt]
  exact Ke.bind fun x t e=>(fL f _ d t).mono (fL f .prod d s x t e)
 |f+1,.prod,d,s=>by
  rw[sumAt]
  exact Ke.bind fun x t e=>(fL f _ d t).mono (fL f .fact d s x t e)
 |f+1,.sumRest a,d,s=>by
  rw[sumAt]
  split
  ·exact Ke.bind fun x t e=>(fL f _ d t).mono (fL f .prod d s.next x t e)
  ·exact bM (.refl _)
 |f+1,.prodRest a,d,s=>by
  rw[sumAt]
  split
  ·exact Ke.bind fun x t e=>(fL f _ d t).mono (fL f .fact d s.next x t e)
  ·exact bM (.refl _)
 |f+1,.fact,d,s=>by
  rw[sumAt]
  split
  ·exact bM (.refl _)
  ·exact Ke.bind fun x t e=>bM (sX x t e)
  ·refine dM.bind fun t e=>Ke.bind fun x u e1=>dM.bind fun v e2=>bM ?_
   exact((tW t e).trans (fL f .sum (d+1) t x u e1)).trans (iA v e2)
theorem B0(lv:Level)(d:Nat)(s:St):Ke s.env (bg lv d s):=fL _ lv d s
theorem Ot(f d:Nat)(s:St):Ke s.env (reachAt f d s):=by
 unfold reachAt
 split
 ·split
  ·exact bM (.refl _)
  ·split
   ·exact Ke.bind fun x t e=>bM (fL f .sum d s.next.next x t e)
   ·exact dM.bind fun t e=>Ke.bind fun x u e2=>bM ((Ij t e).trans (vH x u e2))
 ·split
  ·exact Ke.bind fun x t e=>bM (fL f .sum d s x t e)
  ·exact bM (.refl _)
theorem Dk{s:St}:Ke s.env (wideAt s):=by
 unfold wideAt
 split
 ·split
  ·exact bM (.refl _)
  ·exact lu
 ·exact ke
theorem Nq(s:St):Ke s.env (unitAt s):=by
 unfold unitAt
 split
 ·split
  ·exact bM (.refl _)
  ·split
   ·exact Ke.bind fun n t e=>dM.bind fun u e1=>Ke.bind fun m v e2=>bM (((show cZ s.env t.env from Dk (s:=s.next) n t e).trans (iA u e1)).trans (Dk m v e2))
   ·split
    ·exact Ke.bind fun x t e=>bM (show cZ s.env t.env from D9 (s:=s.next) x t e)
    ·exact Ke.bind fun x t e=>bM (sX x t e)
 ·exact ke
theorem Ke.map{α β:Type}{e:Env}{r:Except Fault (α×St)}{f:α×St->β×St}(h:Ke e r)(hf:∀x s,(f (x,s)).2=s):Ke e (r.map f):=by
 intro y t q
 obtain⟨⟨x,s⟩,e1,e2⟩:=iF q
 have:=h x s e1
 have q:=hf x s
 rw[e2]at q
 simp only at q
 rw[q];exact this
theorem Pd{s:St}{g:Except Fault (Lone×St)}(h:loneAt s=some g):Ke s.env g:=by
 unfold loneAt at h
 split at h
 ·cases h;exact(show Ke s.env (holdName s.next)from D9).map fun _ _=>rfl
 ·split at h
  ·cases h;exact(show Ke s.env (oldName _ s.next)from sX).map fun _ _=>rfl
  ·split at h
   ·cases h;exact(show Ke s.env (markName s.next)from vH).map fun _ _=>rfl
   ·split at h
    ·cases h;exact(show Ke s.env (markName s.next)from vH).map fun _ _=>rfl
    ·split at h
     ·cases h;exact(show Ke s.env (markName s.next)from vH).map fun _ _=>rfl
     ·split at h
      ·cases h;exact bM (.refl _)
      ·split at h
       ·cases h;exact bM (.refl _)
       ·cases h
theorem MK{I:Nat->St->Except Fault (Items×St)}{R:Nat->St->Except Fault (Reach×St)}(hI:∀d s,Ke s.env (I d s))(hR:∀d s,Ke s.env (R d s))(d:Nat)(s:St):Ke s.env (gw I R d s):=by
 unfold gw
 split
 ·rename_i g h;exact(Pd h).map fun _ _=>rfl
 ·split
  ·exact dM.bind fun t e=>Ke.bind fun l u e1=>dM.bind fun v e2=>Ke.bind fun r z e3=>bM ((((tW t e).trans (hI _ t l u e1)).trans (iA v e2)).trans (hR _ v r z e3))
  ·exact Ke.bind fun u t e=>Ke.bind fun r z e3=>bM ((Nq s u t e).trans (hR _ t r z e3))
theorem tI:∀(f d:Nat)(s:St),Ke s.env (itemsAt f d s)
 |0,d,s=>by rw[itemsAt];exact ke
 |f+1,d,s=>by
  rw[rV]
  refine Ke.bind fun x t e=>?_
  have h1:=MK (fun d s=>tI f d s) (fun d s=>Ot f d s) d s x t e
  dsimp only
  split
  ·exact Ke.bind fun l u e1=>bM (h1.trans (tI f d t.next l u e1))
  ·exact bM h1
theorem Qo(d:Nat)(s:St):Ke s.env (cU d s):=tI _ d s
theorem IZ{S:Nat->St->Except Fault (Sum×St)}{I:Nat->St->Except Fault (Items×St)}{T:Nat->St->Except Fault (Stats×St)}(hS:∀d s,Ke s.env (S d s))(hI:∀d s,Ke s.env (I d s))(hT:∀d s,Ke s.env (T d s))
  {d:Nat} {s:St} {g:Except Fault ((Stats->Stats)×St)} (h:fg S I T d s=some g):Ke s.env g:=by
 have rw_:cZ s.env (rowAt s).env:=by unfold rowAt;split<;>exact .refl _
 unfold fg at h
 split at h
 ·cases h
  refine Ke.bind fun x t e=>dM.bind fun u e2=>bM ?_
  have h1:cZ s.env t.env:=hS d s.next x t e
  have h2:=iA u e2
  dsimp only at h2
  split at h2
  ·exact h1.trans h2
  ·exact h1.trans h2
 ·split at h
  ·cases h
   exact Ke.bind fun x t e=>dM.bind fun u e2=>bM ((rw_.trans (hI _ _ x t e)).trans (iA u e2))
  ·split at h
   ·cases h
    exact Ke.bind fun x t e=>dM.bind fun u e2=>Ke.bind fun i v e3=>dM.bind fun z e4=>bM ((((show cZ s.env t.env from hS d s.next x t e).trans (tW u e2)).trans (hT _ _ i v e3)).trans (iA z e4))
   ·split at h
    ·cases h
     refine Ke.bind fun x t e=>?_
     have h1:cZ s.env t.env:=sX (s:=s.next) x t e
     dsimp only
     split
     ·exact Ke.bind fun y u e2=>dM.bind fun v e3=>bM ((h1.trans (hS _ _ y u e2)).trans (iA v e3))
     ·exact dM.bind fun v e3=>bM (h1.trans (iA v e3))
    ·split at h
     ·cases h
      exact dM.bind fun v e3=>bM (show cZ s.env v.env from iA (s:=s.next) v e3)
     ·cases h
theorem yx:∀(f d:Nat)(s:St),Ke s.env (statsAt f d s)
 |0,d,s=>by rw[statsAt];exact ke
 |f+1,d,s=>by
  rw[pO]
  unfold og
  split
  ·rename_i g h
   exact Ke.bind fun x t e=>Ke.bind fun r u e2=>bM ((IZ (fun d s=>fL f .sum d s) (fun d s=>tI f d s) (fun d s=>yx f d s) h x t e).trans (yx f d t r u e2))
  ·exact bM (.refl _)
theorem Iv(d:Nat)(s:St):Ke s.env (cS d s):=yx _ d s
end Wm
end
section
set_option Elab.async false
set_option linter.all false
set_option maxRecDepth 100000
set_option maxHeartbeats 2000000
namespace Wale
open PySem PySem.Spec PyProof.Rows L2
open Wm
variable {P:Program}{w:World}{K:PySem.W.Frag}{mg:Str->Option Value}{base:Heap}{a:Ad}
inductive Kd where
 |sizes
 |yarns
 |eW
 |words
 |blocks
 |markers
 |holders
 deriving DecidableEq
def a7:Kd->Str
 | .sizes=>"sizes"
 | .yarns=>"yarns"
 | .eW=>"numbers"
 | .words=>"words"
 | .blocks=>"blocks"
 | .markers=>"markers"
 | .holders=>"holders"
def bF:Kd->Nat
 | .sizes=>16
 | .yarns=>16
 | .eW=>256
 | .words=>64
 | .blocks=>64
 | .markers=>64
 | .holders=>16
def df:Kd->Bool
 | .markers=>false
 | .holders=>false
 |_=>true
theorem uP{j k:Kd}(h:a7 j=a7 k):j=k:=by
 revert h
 cases j<;>cases k<;>first|exact fun _=>rfl|exact fun h=>absurd h (by decide +kernel)
theorem IX(k:Kd):a7 k≠("":Str):=by cases k<;>decide +kernel
abbrev NL:=Kd->List Bytes
def dy(L:NL)(k:Kd)(x:Bytes):NL:=fun j=>if j=k then L j++[x]else L j
def jd(L:NL):Nat:=(L .sizes).length+(L .yarns).length+(L .eW).length+(L .words).length+(L .blocks).length+(L .markers).length+(L .holders).length
theorem add_same{L:NL}{k:Kd}{x:Bytes}:dy L k x k=L k++[x]:=if_pos rfl
theorem kD{L:NL}{j k:Kd}{x:Bytes}(h:j≠k):dy L k x j=L j:=if_neg h
theorem oX(L:NL)(k:Kd)(x:Bytes):jd (dy L k x)=jd L+1:=by
 cases k<;>simp[jd,dy]<;>lia
theorem LY{L:NL}(h:∀k,(L k).length<=bF k):jd L<=496:=by
 have h1:=h .sizes
 have h2:=h .yarns
 have h3:=h .eW
 have h4:=h .words
 have h5:=h .blocks
 have h6:=h .markers
 have h7:=h .holders
 simp only[bF]at h1 h2 h3 h4 h5 h6 h7
 unfold jd
 lia
def lK(kvs:List (Key×V))(L:NL):Prop:=∀x v,bR kvs (.inr (strOf x))=some v↔∃k,df k=true/\v=.str (a7 k)/\x∈L k
def lO(kvs:List (List Key×V))(L:NL):Prop:=∀k x,df k=false->((bR kvs [.inr (a7 k),.inr (strOf x)]).isSome=true↔x∈L k)
def uy(kvs:List (Key×V))(L:NL):Prop:=∀k,(bR kvs (.inr (a7 k))).getD (.int 0)=.int (L k).length
def vD(td sd ad:Addr):List (Str×V):=[("told",.ref td),("standing",.ref sd),("amounts",.ref ad)]
structure NA where
 n:Addr
 td:Addr
 sd:Addr
 ad:Addr
structure fQ(a:Ad)(R:NA)(L:NL)(H:Hp):Prop where
 obj:∃dx,H R.n=some (.ins a.cg dx (vD R.td R.sd R.ad))
 fZ:∃kvs,H R.td=some (.dK kvs)/\lK kvs L/\kvs.length<=jd L
 ib:∃kvs,H R.sd=some (.dT kvs)/\lO kvs L/\kvs.length<=jd L
 gj:∃kvs,H R.ad=some (.dK kvs)/\uy kvs L/\kvs.length<=jd L
 ne:R.td≠R.ad
 bd:∀k,(L k).length<=bF k
def il(R:NA)(H H':Hp):Prop:=∀b o,H b=some o->b≠R.td->b≠R.sd->b≠R.ad->H' b=some o
theorem D6{R:NA}{H H':Hp}(h:aK H H'):il R H H':=fun b o e _ _ _=>h b o e
theorem il.trans{R:NA}{H H1 H2:Hp}(h:il R H H1)(g:il R H1 H2):il R H H2:=fun b o e n1 n2 n3=>g b o (h b o e n1 n2 n3) n1 n2 n3
theorem aO{H:Hp}{p:Addr}{o:HO}(h:H p=none):aK H (upd H p o):=fun b ob e=>by
 rw[ak (fun z=>by rw[z,h]at e;cases e)]
 exact e
theorem fQ.same{R:NA}{L:NL}{H H':Hp}(h:fQ a R L H)(s:aK H H'):fQ a R L H':=by
 obtain⟨⟨dx,e0⟩,⟨k1,e1,t1⟩,⟨k2,e2,t2⟩,⟨k3,e3,t3⟩,ne,bd⟩:=h
 exact⟨⟨dx,s _ _ e0⟩,⟨k1,s _ _ e1,t1⟩,⟨k2,s _ _ e2,t2⟩,⟨k3,s _ _ e3,t3⟩,ne,bd⟩
theorem bY.same{C:Addr}{H H':Hp}{x:Addr}{kd tx:Str}{n pl af:Int}(h:bY C H x kd tx n pl af)(s:aK H H'):bY C H' x kd tx n pl af:=by
 obtain⟨dx,fs,e,r⟩:=h
 exact⟨dx,fs,s _ _ e,r⟩
def Br(a:Ad):Sp:=fun vs H Q _=>∃(R:NA)(dx:Addr)(kvs:List (Key×V))(k:Str)(m:Int),vs=[.ref R.n,.str k]/\H R.n=some (.ins a.cg dx (vD R.td R.sd R.ad))/\H R.ad=some (.dK kvs)/\
 (bR kvs (.inr k)).getD (.int 0)=.int m/\Q (.int m) H
theorem Mv:aI ["self","kind"] ["self","kind"] (aB xj):=⟨rfl,rfl,rfl,by decide +kernel,rfl,by decide +kernel,by decide +kernel⟩
theorem vU(T:Tx P w K mg a):ay P w K mg base aW 1 a.oR a.oo ["self","kind"] (Br a):=by
 refine T.eS.fn.ok Mv (fun vs H Q E h=>?_) (fun cdv A outer s H vs Q E hr h=>?_)
 ·obtain⟨_,_,_,_,_,rfl,_⟩:=h;rfl
 obtain⟨R,dx,kvs,k,m,rfl,e0,e1,em,q⟩:=h
 refine⟨_,aj (aN (Cr (jQ hr) (aD (pv 0) rfl) (pv 1) bW ⟨rfl,rfl,rfl,rfl⟩)),?_⟩
 refine(rF rfl e0 T.cA.cl T.sZ rfl ⟨R.ad,rfl,.inl ⟨kvs,.inl e1⟩,eX _ rfl ⟨_,gn.k (k:=.inr k) e1,?_⟩⟩)
 rw[em]
 exact q
def OX(K:PySem.W.Frag)(a:Ad):Sp:=fun vs H Q E=>∃(R:NA)(L:NL)(k:Kd)(x:Addr)(kd tx:Str)(n pl af:Int),vs=[.ref R.n,.ref x,.str (a7 k)]/\fQ a R L H/\bY a.bL H x kd tx n pl af/\
 ((L k).length≠bF k->Q .ax H)/\((L k).length=bF k->Told K a E 6 pl)
theorem Qr:aI ["self","token","kind"] ["self","token","kind"] (aB wD):=⟨rfl,rfl,rfl,by decide +kernel,rfl,by decide +kernel,by decide +kernel⟩
theorem Hk(k:Kd):bR ([(.inr "sizes",.int 16),(.inr "yarns",.int 16),(.inr "numbers",.int 256),(.inr "words",.int 64),(.inr "blocks",.int 64),(.inr "markers",.int 64),(.inr "holders",.int 16)]:List (Key×V)) (.inr (a7 k))=some (.int (bF k:Nat)):=by
 cases k<;>decide +kernel
theorem Ga(T:Tx P w K mg a):ay P w K mg base (bh P w) 4 a.pP a.pR ["self","token","kind"] (OX K a):=by
 refine T.qO.fn.bx Qr (fun vs H Q E h=>?_) (fun cdv A outer s H vs Q E hr h=>?_)
 ·obtain⟨_,_,_,_,_,_,_,_,_,rfl,_⟩:=h;rfl
 obtain⟨R,L,k,x,kd,tx,n,pl,af,rfl,N,tk,q1,q2⟩:=h
 refine⟨_,aj (a5 (a6 cq (aZ (pv 0) T.cA.cl T.eS.mt (vU T) (hr.mono (by decide)) T.eS.bd .nil aU (aa (pv 2) ag)) (CH T.MQ (pv 2) (fun _ _=>rfl)) (a4 _))
  (aj (eY rfl fj T.jB (vO T) T.qf.2 (hr.mono (by decide)) (aD (pv 1) rfl))) ba),?_⟩
 obtain⟨dx,e0⟩:=N.obj
 obtain⟨kva,ea,ha,-⟩:=N.gj
 refine(eX _ rfl ⟨R.n,dx,eX _ rfl ⟨e0,rfl,eX _ rfl ⟨R,dx,kva,a7 k,eX _ rfl ⟨e0,ea,ha k,?_⟩⟩⟩⟩)
 refine(eX _ rfl ⟨.inr (a7 k),eX _ rfl ⟨Hk k,rfl,eX _ rfl ?_⟩⟩)
 rw[fS]
 refine aV (fun c=>?_) (fun c=>?_)
 ·obtain⟨dx1,fs,e,l1,l2,l3,l4,l5⟩:=tk
  exact(rF rfl e T.bz.cl T.gL l4 (eA T.jB (q2 (by have:=of_decide_eq_true c;lia))))
 ·exact q1 fun z=>c (decide_eq_true (by rw[z]))
def dF(L:NL)(x:Bytes):Prop:=∀j,df j=true->x∉L j
def PR(K:PySem.W.Frag)(a:Ad):Sp:=fun vs H Q E=>∃(R:NA)(L:NL)(k:Kd)(x:Addr)(xb:Bytes)(kd:Str)(n pl af:Int),vs=[.ref R.n,.ref x,.str (a7 k)]/\fQ a R L H/\bY a.bL H x kd (strOf xb) n pl af/\
 (¬dF L xb->Told K a E 5 pl)/\(dF L xb->(L k).length=bF k->Told K a E 6 pl)/\(dF L xb->(L k).length≠bF k->Q .ax H)
theorem HP:aI ["self","token","kind"] ["self","token","kind"] (aB zm):=⟨rfl,rfl,rfl,by decide +kernel,rfl,by decide +kernel,by decide +kernel⟩
theorem Qb(T:Tx P w K mg a):ay P w K mg base (bh P w) 5 a.r0 a.rp ["self","token","kind"] (PR K a):=by
 refine T.wJ.fn.bx HP (fun vs H Q E h=>?_) (fun cdv A outer s H vs Q E hr h=>?_)
 ·obtain⟨_,_,_,_,_,_,_,_,_,rfl,_⟩:=h;rfl
 obtain⟨R,L,k,x,xb,kd,n,pl,af,rfl,N,tk,q1,q2,q3⟩:=h
 refine⟨_,ai (a5 (Hi (BO (jQ hr) (aD (pv 1) rfl) (aD (pv 0) rfl)) (by rfl))
  (aj (eY rfl fj T.mE (xE T) T.uk.2 (hr.mono (by decide)) (aD (pv 1) rfl))) ba)
  (aj (a3 (aZ (pv 0) T.cA.cl T.qO.mt (Ga T) hr T.qO.bd .nil au (aa (pv 1) (aa (pv 2) ag))))),?_⟩
 obtain⟨dx,e0⟩:=N.obj
 obtain⟨kvs,e1,h1,-⟩:=N.fZ
 have tk':=tk
 obtain⟨dx1,fs,e,l1,l2,l3,l4,l5⟩:=tk
 refine(rF rfl e T.bz.cl T.bZ l2 (rF rfl e0 T.cA.cl T.uJ rfl ⟨R.td,eX _ rfl ⟨gn.k (k:=.inr (strOf xb)) e1,eX _ rfl ?_⟩⟩))
 cases hv:bR kvs (.inr (strOf xb))with
 |some v=>
  obtain⟨j,hj,-,hm⟩:=(h1 xb v).mp hv
  exact bK (rF rfl e T.bz.cl T.gL l4 (eA T.mE (q1 fun z=>z j hj hm)))
 |none=>
  have un:dF L xb:=fun j hj hm=>by
   have:=(h1 xb _).mpr ⟨j,hj,rfl,hm⟩
   rw[hv]at this
   cases this
  exact cw (eX _ rfl ⟨R.n,dx,eX _ rfl ⟨e0,rfl,eX _ rfl (eX _ rfl ⟨R,L,k,x,kd,_,n,pl,af,rfl,N,tk',fun z=>q3 un z,fun z=>q2 un z⟩)⟩⟩)
def Kr(K:PySem.W.Frag)(a:Ad):Sp:=fun vs H Q E=>∃(R:NA)(L:NL)(k:Kd)(x:Addr)(xb:Bytes)(kd:Str)(n pl af:Int),vs=[.ref R.n,.ref x,.str (a7 k)]/\fQ a R L H/\bY a.bL H x kd (strOf xb) n pl af/\df k=true/\
 (xb∈L k->Q .ax H)/\(xb∉L k->Told K a E 4 pl)
theorem IG:aI ["self","token","kind"] ["self","token","kind"] (aB AH):=⟨rfl,rfl,rfl,by decide +kernel,rfl,by decide +kernel,by decide +kernel⟩
theorem Pz(T:Tx P w K mg a):ay P w K mg base (bh P w) 4 a.qP a.p9 ["self","token","kind"] (Kr K a):=by
 refine T.y1.fn.bx IG (fun vs H Q E h=>?_) (fun cdv A outer s H vs Q E hr h=>?_)
 ·obtain⟨_,_,_,_,_,_,_,_,_,rfl,_⟩:=h;rfl
 obtain⟨R,L,k,x,xb,kd,n,pl,af,rfl,N,tk,ht,q1,q2⟩:=h
 refine⟨_,aj (a5 (a6 lB (Cr (jQ hr) (aD (pv 0) rfl) (aD (pv 1) rfl) aP ⟨rfl,rfl,rfl,rfl⟩) (pv 2) (a4 _))
  (aj (eY rfl fj T.B6 (NP T) T.Cm.2 (hr.mono (by decide)) (aD (pv 1) rfl))) ba),?_⟩
 obtain⟨dx,e0⟩:=N.obj
 obtain⟨kvs,e1,h1,-⟩:=N.fZ
 obtain⟨dx1,fs,e,l1,l2,l3,l4,l5⟩:=tk
 refine(rF rfl e0 T.cA.cl T.uJ rfl ⟨R.td,rfl,.inl ⟨kvs,.inl e1⟩,rF rfl e T.bz.cl T.bZ l2 ⟨_,gn.k (k:=.inr (strOf xb)) e1,?_⟩⟩)
 have bad:∀lo,xb∉L k->nB lo K a.nR E 4 (oO K (bD 1) "place") {nx:=fun _ H'=>Q .ax H',rt:=Q} (L2.start ["self","token","kind"] [.ref R.n,.ref x,.str (a7 k)]) H:=fun lo hm=>
  (rF rfl e T.bz.cl T.gL l4 (eA T.B6 (q2 hm)))
 cases hv:bR kvs (.inr (strOf xb))with
 |some v=>
  obtain⟨j,hj,ev,hm⟩:=(h1 xb v).mp hv
  subst ev
  refine(eX _ rfl ⟨rfl,eX _ rfl ?_⟩)
  show if(!decide (V.str (a7 j)=V.str (a7 k)))=true then _ else _
  rw[cR]
  by_cases hjk:j=k
  ·subst hjk
   exact sf rfl (q1 hm)
  ·rw[decide_eq_false fun z=>hjk (uP z)]
   refine bK (bad _ fun hm'=>hjk ?_)
   have:=(h1 xb _).mpr ⟨k,ht,rfl,hm'⟩
   rw[hv]at this
   exact uP (V.str.inj (Option.some.inj this))
 |none=>
  refine(eX _ rfl ⟨rfl,eX _ rfl ?_⟩)
  show if(!decide (V.str ""=V.str (a7 k)))=true then _ else _
  rw[cR,decide_eq_false fun z=>IX k z.symm]
  refine bK (bad _ fun hm'=>?_)
  have:=(h1 xb _).mpr ⟨k,ht,rfl,hm'⟩
  rw[hv]at this
  cases this
end Wale
end
section
set_option Elab.async false
set_option linter.all false
set_option maxRecDepth 100000
set_option maxHeartbeats 2000000
namespace Wale
open PySem PySem.Spec PyProof.Rows L2
open Wm
variable {P:Program}{w:World}{K:PySem.W.Frag}{mg:Str->Option Value}{base:Heap}{a:Ad}
theorem El{x y:Str}(h:x≠y):(Sum.inr x:Key)≠ .inr y:=fun z=>h (Sum.inr.inj z)
theorem lK.put{kvs:List (Key×V)}{L:NL}{k:Kd}{x:Bytes}(h:lK kvs L)(hk:df k=true)(hu:dF L x):lK (putK kvs (.inr (strOf x)) (.str (a7 k))) (dy L k x):=by
 intro y v
 rw[wR]
 by_cases e:y=x
 ·subst e
  rw[if_pos rfl]
  constructor
  ·intro z
   cases z
   exact⟨k,hk,rfl,by rw[add_same];simp⟩
  ·rintro⟨j,hj,rfl,hm⟩
   by_cases ej:j=k
   ·rw[ej]
   ·rw[kD ej]at hm
    exact absurd hm (hu j hj)
 ·rw[if_neg (El fun z=>e (pC z)),h y v]
  refine exists_congr fun j=>and_congr_right fun hj=>and_congr_right fun ev=>?_
  by_cases ej:j=k
  ·rw[ej,add_same]
   simp[e]
  ·rw[kD ej]
theorem uy.put{kvs:List (Key×V)}{L:NL}{k:Kd}{x:Bytes}(h:uy kvs L):uy (putK kvs (.inr (a7 k)) (.int ((L k).length+1))) (dy L k x):=by
 intro j
 rw[wR]
 by_cases e:j=k
 ·subst e
  rw[if_pos rfl,add_same]
  simp
 ·rw[if_neg (El fun z=>e (uP z)),kD e]
  exact h j
theorem lO.put{kvs:List (List Key×V)}{L:NL}{k:Kd}{x:Bytes}(h:lO kvs L)(hk:df k=false):lO (putK kvs [.inr (a7 k),.inr (strOf x)] (.bl true)) (dy L k x):=by
 intro j y hj
 rw[wR]
 by_cases e:j=k
 ·subst e
  rw[add_same]
  by_cases ey:y=x
  ·subst ey
   rw[if_pos rfl]
   simp
  ·rw[if_neg (fun z=>by simp at z;exact ey (pC z)),h j y hj]
   simp[ey]
 ·rw[if_neg (fun z=>by simp at z;exact e (uP z.1)),kD e]
  exact h j y hj
theorem lK.add{kvs:List (Key×V)}{L:NL}{k:Kd}{x:Bytes}(h:lK kvs L)(hk:df k=false):lK kvs (dy L k x):=by
 intro y v
 rw[h y v]
 refine exists_congr fun j=>and_congr_right fun hj=>and_congr_right fun ev=>?_
 rw[kD (fun z=>by rw[z,hk]at hj;cases hj)]
theorem lO.add{kvs:List (List Key×V)}{L:NL}{k:Kd}{x:Bytes}(h:lO kvs L)(hk:df k=true):lO kvs (dy L k x):=by
 intro j y hj
 rw[h j y hj,kD (fun z=>by rw[z,hk]at hj;cases hj)]
theorem EI{L:NL}{k:Kd}{x:Bytes}(h:∀k,(L k).length<=bF k)(hl:(L k).length≠bF k)(j:Kd):(dy L k x j).length<=bF j:=by
 have:=h j
 by_cases e:j=k
 ·subst e
  rw[add_same,List.length_append,List.length_singleton]
  lia
 ·rw[kD e];exact this
theorem small{n:Nat}{L:NL}(h:n<=jd L)(b:∀k,(L k).length<=bF k):n<sizeLine:=Nr (by have:=LY b;lia)
def Gj(a:Ad):Sp:=fun vs H Q _=>∃(R:NA)(L:NL)(k:Kd)(x:Addr)(xb:Bytes)(kd:Str)(n pl af:Int),vs=[.ref R.n,.ref x,.str (a7 k)]/\fQ a R L H/\bY a.bL H x kd (strOf xb) n pl af/\df k=true/\dF L xb/\
 (L k).length≠bF k/\∀H',fQ a R (dy L k xb) H'->il R H H'->Q .ax H'
theorem NU:aI ["self","token","kind"] ["self","token","kind"] (aB zc):=⟨rfl,rfl,rfl,by decide +kernel,rfl,by decide +kernel,by decide +kernel⟩
theorem Ds(T:Tx P w K mg a):ay P w K mg base aW 2 a.nU a.oN ["self","token","kind"] (Gj a):=by
 refine T.iU.fn.ok NU (fun vs H Q E h=>?_) (fun cdv A outer s H vs Q E hr h=>?_)
 ·obtain⟨_,_,_,_,_,_,_,_,_,rfl,_⟩:=h;rfl
 obtain⟨R,L,k,x,xb,kd,n,pl,af,rfl,N,tk,hk,hu,hl,q⟩:=h
 refine⟨_,ai (uc (jQ hr) (aD (pv 0) rfl) (aD (pv 1) rfl) (pv 2) rfl)
  (aj (uc (jQ hr) (aD (pv 0) rfl) (pv 2) (cY j0 (aZ (pv 0) T.cA.cl T.eS.mt (vU T) hr T.eS.bd .nil aU (aa (pv 2) ag)) bW) rfl)),?_⟩
 obtain⟨dx,e0⟩:=N.obj
 obtain⟨kt,et,ht,lt⟩:=N.fZ
 obtain⟨ks,es,hs,ls⟩:=N.ib
 obtain⟨ka,ea,ha,la⟩:=N.gj
 obtain⟨dx1,fs,e,l1,l2,l3,l4,l5⟩:=tk
 have nt:R.n≠R.td:=bQ e0 et (fun z=>nomatch z)
 have na:R.n≠R.ad:=bQ e0 ea (fun z=>nomatch z)
 have st:R.sd≠R.td:=bQ es et (fun z=>nomatch z)
 have sa:R.sd≠R.ad:=bQ es ea (fun z=>nomatch z)
 refine(eX _ rfl (rF rfl e0 T.cA.cl T.uJ rfl (rF rfl e T.bz.cl T.bZ l2 ⟨R.td,eX _ rfl ⟨ia.k (k:=.inr (strOf xb)) et (small lt N.bd),?_⟩⟩)))
 have e0':(upd H R.td (.dK (putK kt (.inr (strOf xb)) (.str (a7 k))))) R.n=some (.ins a.cg dx (vD R.td R.sd R.ad)):=by rw[ak nt];exact e0
 have ea':(upd H R.td (.dK (putK kt (.inr (strOf xb)) (.str (a7 k))))) R.ad=some (.dK ka):=by rw[ak N.ne.symm];exact ea
 refine(eX _ rfl ⟨R.n,dx,eX _ rfl ⟨e0',rfl,eX _ rfl ⟨R,dx,ka,a7 k,eX _ rfl ⟨e0',ea',ha k,_,eX _ rfl ⟨rfl,?_⟩⟩⟩⟩⟩)
 refine(rF rfl e0' T.cA.cl T.sZ rfl (eX _ rfl ⟨R.ad,eX _ rfl ⟨ia.k (k:=.inr (a7 k)) ea' (small la N.bd),?_⟩⟩))
 refine q _ ⟨⟨dx,?_⟩,⟨_,?_,ht.put hk hu,?_⟩,⟨ks,?_,hs.add hk,?_⟩,⟨_,aw,ha.put,?_⟩,N.ne,EI N.bd hl⟩ fun b o eb n1 n2 n3=>?_
 ·rw[ak na];exact e0'
 ·rw[ak N.ne];exact aw
 ·have:=ny kt (.inr (strOf xb)) (.str (a7 k));rw[oX];lia
 ·rw[ak sa,ak st];exact es
 ·rw[oX];lia
 ·rw[oX];exact Nat.le_trans (ny ka (.inr (a7 k)) _) (Nat.succ_le_succ la)
 ·rw[ak n3,ak n1];exact eb
def jx(L:NL)(k:Kd)(x:Bytes):NL:=if x∈L k then L else dy L k x
def Pa(K:PySem.W.Frag)(a:Ad):Sp:=fun vs H Q E=>∃(R:NA)(L:NL)(k:Kd)(x:Addr)(xb:Bytes)(kd:Str)(n pl af:Int),vs=[.ref R.n,.ref x,.str (a7 k)]/\fQ a R L H/\bY a.bL H x kd (strOf xb) n pl af/\df k=false/\
 (xb∉L k->(L k).length=bF k->Told K a E 6 pl)/\((xb∈L k\/(L k).length≠bF k)->∀H',fQ a R (jx L k xb) H'->il R H H'->Q .ax H')
theorem Pw:aI ["self","token","kind"] ["self","token","kind"] (aB Am):=⟨rfl,rfl,rfl,by decide +kernel,rfl,by decide +kernel,by decide +kernel⟩
theorem LL(T:Tx P w K mg a):ay P w K mg base (bh P w) 5 a.pU a.rC ["self","token","kind"] (Pa K a):=by
 refine T.yW.fn.bx Pw (fun vs H Q E h=>?_) (fun cdv A outer s H vs Q E hr h=>?_)
 ·obtain⟨_,_,_,_,_,_,_,_,_,rfl,_⟩:=h;rfl
 obtain⟨R,L,k,x,xb,kd,n,pl,af,rfl,N,tk,hk,q1,q2⟩:=h
 refine⟨_,ai (a5 (Hi (BO (jQ hr) (kO (aa (pv 2) (aa (aD (pv 1) rfl) ag))) (aD (pv 0) rfl)) (by rfl)) (aj Hg) ba)
  (ai (a3 (aZ (pv 0) T.cA.cl T.qO.mt (Ga T) hr T.qO.bd .nil au (aa (pv 1) (aa (pv 2) ag))))
  (ai (uc (jQ hr) (aD (pv 0) rfl) (kO (aa (pv 2) (aa (aD (pv 1) rfl) ag))) OP rfl)
  (aj (uc (jQ hr) (aD (pv 0) rfl) (pv 2) (cY j0 (aZ (pv 0) T.cA.cl T.eS.mt (vU T) (hr.mono (by decide)) T.eS.bd .nil aU (aa (pv 2) ag)) bW) rfl)))),?_⟩
 have tk0:=tk
 obtain⟨dx,e0⟩:=N.obj
 obtain⟨kt,et,ht,lt⟩:=N.fZ
 obtain⟨ks,es,hs,ls⟩:=N.ib
 obtain⟨ka,ea,ha,la⟩:=N.gj
 obtain⟨dx1,fs,e,l1,l2,l3,l4,l5⟩:=tk
 have nt:R.n≠R.td:=bQ e0 et (fun z=>nomatch z)
 have na:R.n≠R.ad:=bQ e0 ea (fun z=>nomatch z)
 have ns:R.n≠R.sd:=bQ e0 es (fun z=>nomatch z)
 have st:R.sd≠R.td:=bQ es et (fun z=>nomatch z)
 have sa:R.sd≠R.ad:=bQ es ea (fun z=>nomatch z)
 refine(eX _ rfl (rF rfl e T.bz.cl T.bZ l2 ⟨(by show 2<=sizeLine;decide),fun p hp=>?_⟩))
 have s1:aK H (upd H p (.tup [.str (a7 k),.str (strOf xb)])):=aO hp
 refine(rF rfl (s1 _ _ e0) T.cA.cl T.AO rfl ⟨R.sd,eX _ rfl ⟨gn.t (k:=[.inr (a7 k),.inr (strOf xb)]) (s1 _ _ es) aw,eX _ rfl ?_⟩⟩)
 have hin:=hs k xb hk
 by_cases hm:xb∈L k
 ·rw[hin.mpr hm]
  refine bK (q2 (.inl hm) _ ?_ (D6 s1))
  unfold jx
  rw[if_pos hm]
  exact N.same s1
 rw[show(bR ks [.inr (a7 k),.inr (strOf xb)]).isSome=false from Bool.eq_false_iff.mpr fun z=>hm (hin.mp z)]
 refine cw (eX _ rfl ⟨R.n,dx,eX _ rfl ⟨s1 _ _ e0,rfl,eX _ rfl (eX _ rfl ⟨R,L,k,x,kd,_,n,pl,af,rfl,N.same s1,tk0.same s1,fun hl=>?_,fun hl=>q1 hm hl⟩)⟩⟩)
 refine(rF rfl (s1 _ _ e0) T.cA.cl T.AO rfl (eX _ rfl (rF rfl (s1 _ _ e) T.bz.cl T.bZ l2 ⟨(by show 2<=sizeLine;decide),fun p2 hp2=>?_⟩)))
 generalize hH1:upd H p (.tup [.str (a7 k),.str (strOf xb)])=H1 at s1 hp2
 have s2:aK H (upd H1 p2 (.tup [.str (a7 k),.str (strOf xb)])):=s1.trans (aO hp2)
 refine⟨R.sd,eX _ rfl ⟨ia.t (k:=[.inr (a7 k),.inr (strOf xb)]) (s2 _ _ es) aw (small ls N.bd),?_⟩⟩
 generalize hH2:upd H1 p2 (.tup [.str (a7 k),.str (strOf xb)])=H2 at s2
 have e0':(upd H2 R.sd (.dT (putK ks [.inr (a7 k),.inr (strOf xb)] (.bl true)))) R.n=some (.ins a.cg dx (vD R.td R.sd R.ad)):=by rw[ak ns];exact s2 _ _ e0
 have ea':(upd H2 R.sd (.dT (putK ks [.inr (a7 k),.inr (strOf xb)] (.bl true)))) R.ad=some (.dK ka):=by rw[ak sa.symm];exact s2 _ _ ea
 refine(eX _ rfl ⟨R.n,dx,eX _ rfl ⟨e0',rfl,eX _ rfl ⟨R,dx,ka,a7 k,eX _ rfl ⟨e0',ea',ha k,_,eX _ rfl ⟨rfl,?_⟩⟩⟩⟩⟩)
 refine(rF rfl e0' T.cA.cl T.sZ rfl (eX _ rfl ⟨R.ad,eX _ rfl ⟨ia.k (k:=.inr (a7 k)) ea' (small la N.bd),?_⟩⟩))
 refine q2 (.inr hl) _ ?_ fun b o eb n1 n2 n3=>?_
 ·unfold jx
  rw[if_neg hm]
  refine⟨⟨dx,?_⟩,⟨kt,?_,ht.add hk,?_⟩,⟨_,?_,hs.put hk,?_⟩,⟨_,aw,ha.put,?_⟩,N.ne,EI N.bd hl⟩
  ·rw[ak na];exact e0'
  ·rw[ak N.ne,ak st.symm];exact s2 _ _ et
  ·rw[oX];lia
  ·rw[ak sa];exact aw
  ·have:=ny ks [.inr (a7 k),.inr (strOf xb)] (.bl true);rw[oX];lia
  ·rw[oX];exact Nat.le_trans (ny ka (.inr (a7 k)) _) (Nat.succ_le_succ la)
 ·rw[ak n3,ak n2];exact s2 _ _ eb
def GO:NL:=fun _=>[]
def Nk(a:Ad):Sp:=fun vs H Q _=>∃(x dx:Addr),vs=[.ref x]/\H x=some (.ins a.cg dx [])/\∀(H':Hp)(R:NA),R.n=x->fQ a R GO H'->(∀b o,H b=some o->b≠x->H' b=some o)->Q .ax H'
theorem NV:aI ["self"] ["self"] (aB yU):=⟨rfl,rfl,rfl,by decide +kernel,rfl,by decide +kernel,by decide +kernel⟩
theorem OY(T:Tx P w K mg a):ay P w K mg base aW 1 a.lp a.nD ["self"] (Nk a):=by
 refine T.Ei.1.ok NV (fun vs H Q E h=>?_) (fun cdv A outer s H vs Q E hr h=>?_)
 ·obtain⟨_,_,rfl,_⟩:=h;rfl
 obtain⟨x,dx,rfl,hx,q⟩:=h
 refine⟨_,ai (c6 (pv 0) A6 rfl) (ai (c6 (pv 0) Qt rfl) (aj (c6 (pv 0) A6 rfl))),?_⟩
 have C:=T.cA.cl
 have nx {H:Hp} {p b:Addr} {o:HO} (h:H p=none) (e:H b=some o):b≠p:=fun z=>by rw[z,h]at e;cases e
 intro td htd
 have n1:x≠td:=nx htd hx
 refine(eX _ rfl ⟨x,_,dx,eX _ rfl ⟨(by rw[ak n1];exact hx),C,T.uJ,(by show 0<1000;decide),?_⟩⟩)
 intro sd hsd
 have e1:(upd (upd H td (.dK [])) x (.ins a.cg dx (cy "told" (.ref td) []))) td=some (.dK []):=by rw[ak n1.symm];exact aw
 have n2:x≠sd:=nx hsd aw
 have n3:td≠sd:=nx hsd e1
 refine(eX _ rfl ⟨x,_,dx,eX _ rfl ⟨(by rw[ak n2];exact aw),C,T.AO,(by show 1<1000;decide),?_⟩⟩)
 intro ad had
 have n4:x≠ad:=nx had aw
 have n5:sd≠ad:=nx had (by rw[ak n2.symm];exact aw)
 have n6:td≠ad:=nx had (by rw[ak n1.symm,ak n3];exact e1)
 refine(eX _ rfl ⟨x,_,dx,eX _ rfl ⟨(by rw[ak n4];exact aw),C,T.sZ,(by show 2<1000;decide),?_⟩⟩)
 refine q _ ⟨x,td,sd,ad⟩ rfl ⟨⟨dx,aw⟩,⟨[],?_,fun y v=>?_,Nat.zero_le _⟩,⟨[],?_,fun k y _=>?_,Nat.zero_le _⟩,⟨[],?_,fun k=>rfl,Nat.zero_le _⟩,n6,fun k=>Nat.zero_le _⟩ fun b o eb hb=>?_
 ·rw[ak n1.symm,ak n6,ak n1.symm,ak n3];exact e1
 ·rw[Fj]
  constructor
  ·intro z;cases z
  ·rintro⟨j,_,_,hm⟩;cases hm
 ·rw[ak n2.symm,ak n5,ak n2.symm];exact aw
 ·rw[Fj]
  constructor
  ·intro z;cases z
  ·intro hm;cases hm
 ·rw[ak n4.symm];exact aw
 ·have b1:b≠td:=nx htd eb
  have g1:(upd H td (.dK [])) b=some o:=by rw[ak b1];exact eb
  have g2:(upd (upd H td (.dK [])) x (.ins a.cg dx (cy "told" (.ref td) []))) b=some o:=by rw[ak hb];exact g1
  have b2:b≠sd:=nx hsd g2
  have g3:(upd (upd (upd (upd H td (.dK [])) x (.ins a.cg dx (cy "told" (.ref td) []))) sd (.dT [])) x (.ins a.cg dx (cy "standing" (.ref sd) (cy "told" (.ref td) [])))) b=some o:=by rw[ak hb,ak b2];exact g2
  rw[ak hb,ak (nx had g3)]
  exact g3
end Wale
end
section
set_option Elab.async false
set_option linter.all false
set_option maxRecDepth 100000
set_option maxHeartbeats 2000000
namespace Wale
open PySem PySem.Spec PyProof.Rows L2
open Wm
variable {P:Program}{w:World}{K:PySem.W.Frag}{mg:Str->Option Value}{base:Heap}{a:Ad}
structure RA where
 r:Addr
 t:Addr
 N:NA
def lJ(t:Addr)(v:V)(p d:Nat)(n:Addr):List (Str×V):=[("source",.ref t),("ahead",v),("after",.int (p:Int)),("depth",.int (d:Int)),("names",.ref n)]
def cz(b:Bytes)(p:Nat):Prop:=∀k,ao b p≠ .bad k
def c7(a:Ad)(b:Bytes)(p:Nat)(H:Hp)(x:Addr):Prop:=bY a.bL H x (fo (ao b p)) (bo (ao b p)) (Ai (ao b p):Nat) (aS b p:Nat) (az b p:Nat)
def C2(a:Ad)(b:Bytes)(p:Nat)(H:Hp)(v:V):Prop:=v=.ax\/∃x,v=.ref x/\cz b p/\c7 a b p H x
structure aq(a:Ad)(K:PySem.W.Frag)(b:Bytes)(R:RA)(p d:Nat)(L:NL)(H:Hp):Prop where
 obj:∃dx v,H R.r=some (.ins a.bj dx (lJ R.t v p d R.N.n))/\C2 a b p H v
 src:aF K H R.t (nums b)
 nm:fQ a R.N L H
 len:b.length<=20000
 pl:p<=b.length
def aH(R:RA)(H H':Hp):Prop:=∀b o,H b=some o->b≠R.r->b≠R.N.td->b≠R.N.sd->b≠R.N.ad->H' b=some o
theorem aH.refl(R:RA)(H:Hp):aH R H H:=fun _ _ h _ _ _ _=>h
theorem bq{R:RA}{H H':Hp}(h:aK H H'):aH R H H':=fun b o e _ _ _ _=>h b o e
theorem aH.trans{R:RA}{H H1 H2:Hp}(h:aH R H H1)(g:aH R H1 H2):aH R H H2:=fun b o e n1 n2 n3 n4=>g b o (h b o e n1 n2 n3 n4) n1 n2 n3 n4
theorem il.keepR{R:RA}{H H':Hp}(h:il R.N H H'):aH R H H':=fun b o e _ n2 n3 n4=>h b o e n2 n3 n4
theorem iV{R:RA}{H:Hp}{o:HO}:aH R H (upd H R.r o):=fun b ob e n1 _ _ _=>by rw[ak n1];exact e
theorem Kv{H:Hp}{x r:Addr}{C C' dx:Addr}{kd tx:Str}{n pl af:Int}{fs:List (Str×V)}(h:bY C H x kd tx n pl af)(e:H r=some (.ins C' dx fs))(l:fs.lookup ("kind":Str)=none):x≠r:=by
 obtain⟨dx1,fs1,e1,l1,-⟩:=h
 intro z
 rw[z,e]at e1
 cases e1
 rw[l]at l1
 cases l1
section
variable {b:Bytes}{R:RA}{p d:Nat}{L:NL}{H H':Hp}
theorem aq.Gu(h:aq a K b R p d L H):∃dx fs,H R.r=some (.ins a.bj dx fs)/\fs.lookup ("kind":Str)=none:=by
 obtain⟨dx,v,e,-⟩:=h.obj
 exact⟨dx,_,e,rfl⟩
theorem bY.keepR{C x:Addr}{kd tx:Str}{n pl af:Int}(h:bY C H x kd tx n pl af)(N:aq a K b R p d L H)(s:aH R H H'):bY C H' x kd tx n pl af:=by
 obtain⟨dr,fr,er,lr⟩:=N.Gu
 have nr:=Kv h er lr
 obtain⟨dx,fs,e,r⟩:=h
 obtain⟨k1,e1,-⟩:=N.nm.fZ
 obtain⟨k2,e2,-⟩:=N.nm.ib
 obtain⟨k3,e3,-⟩:=N.nm.gj
 exact⟨dx,fs,s _ _ e nr (bQ e e1 (fun z=>nomatch z)) (bQ e e2 (fun z=>nomatch z)) (bQ e e3 (fun z=>nomatch z)),r⟩
theorem Rd.keepR{t:Addr}{xs:List V}(h:Rd H t (.lst xs))(N:aq a K b R p d L H)(s:aH R H H'):Rd H' t (.lst xs):=by
 obtain⟨dr,fr,er,lr⟩:=N.Gu
 obtain⟨k1,e1,-⟩:=N.nm.fZ
 obtain⟨k2,e2,-⟩:=N.nm.ib
 obtain⟨k3,e3,-⟩:=N.nm.gj
 rcases h with e|⟨o,e⟩
 ·exact .inl (s _ _ e (bQ e er (fun z=>nomatch z)) (bQ e e1 (fun z=>nomatch z)) (bQ e e2 (fun z=>nomatch z)) (bQ e e3 (fun z=>nomatch z)))
 ·exact .inr ⟨o,s _ _ e (bQ e er (fun z=>nomatch z)) (bQ e e1 (fun z=>nomatch z)) (bQ e e2 (fun z=>nomatch z)) (bQ e e3 (fun z=>nomatch z))⟩
theorem aF.keepR{t:Addr}{xs:List V}(h:aF K H t xs)(N:aq a K b R p d L H)(s:aH R H H'):aF K H' t xs:=by
 rcases h with h|h
 ·exact .inl (Rd.keepR h N s)
 ·exact .inr h
theorem aq.names{L':NL}(h:aq a K b R p d L H)(k:il R.N H H')(n:fQ a R.N L' H'):aq a K b R p d L' H':=by
 obtain⟨k1,e1,-⟩:=h.nm.fZ
 obtain⟨k2,e2,-⟩:=h.nm.ib
 obtain⟨k3,e3,-⟩:=h.nm.gj
 obtain⟨dx,v,e,hv⟩:=h.obj
 refine⟨⟨dx,v,k _ _ e (bQ e e1 (fun z=>nomatch z)) (bQ e e2 (fun z=>nomatch z)) (bQ e e3 (fun z=>nomatch z)),?_⟩,aF.keepR h.src h k.keepR,n,h.len,h.pl⟩
 rcases hv with hv|⟨x,ev,nb,tk⟩
 ·exact .inl hv
 ·exact .inr ⟨x,ev,nb,bY.keepR tk h k.keepR⟩
theorem aq.same(h:aq a K b R p d L H)(s:aK H H'):aq a K b R p d L H':=h.names (D6 s) (h.nm.same s)
theorem aq.put{dx:Addr}{v v':V}{p' d':Nat}(h:aq a K b R p d L H)(e:H R.r=some (.ins a.bj dx (lJ R.t v p d R.N.n)))(hv:C2 a b p' H v')(hp:p'<=b.length):
  aq a K b R p' d' L (upd H R.r (.ins a.bj dx (lJ R.t v' p' d' R.N.n))):=by
 have kp:aH R H (upd H R.r (.ins a.bj dx (lJ R.t v' p' d' R.N.n))):=iV
 obtain⟨k1,e1,t1⟩:=h.nm.fZ
 obtain⟨k2,e2,t2⟩:=h.nm.ib
 obtain⟨k3,e3,t3⟩:=h.nm.gj
 obtain⟨dn,en⟩:=h.nm.obj
 have nr:R.N.n≠R.r:=bQ en e (fun z=>by
  injection z with z1 z2 z3
  exact absurd (congrArg List.length z3) (show ¬(3=5) by decide))
 refine⟨⟨dx,v',aw,?_⟩,aF.keepR h.src h kp,⟨⟨dn,?_⟩,⟨k1,?_,t1⟩,⟨k2,?_,t2⟩,⟨k3,?_,t3⟩,h.nm.ne,h.nm.bd⟩,h.len,hp⟩
 ·rcases hv with hv|⟨x,ev,nb,tk⟩
  ·exact .inl hv
  ·exact .inr ⟨x,ev,nb,bY.keepR tk h kp⟩
 ·rw[ak nr];exact en
 ·rw[ak (bQ e1 e (fun z=>nomatch z))];exact e1
 ·rw[ak (bQ e2 e (fun z=>nomatch z))];exact e2
 ·rw[ak (bQ e3 e (fun z=>nomatch z))];exact e3
end
def gK(K:PySem.W.Frag)(a:Ad)(b:Bytes)(p:Nat)(E:XK):Prop:=∀k:Nat,ao b p=.bad k->Told K a E k (aS b p:Nat)
def Bx(K:PySem.W.Frag)(a:Ad):Sp:=fun vs H Q E=>∃(b:Bytes)(R:RA)(p d:Nat)(L:NL),vs=[.ref R.r]/\aq a K b R p d L H/\gK K a b p E/\
 (cz b p->∀(H':Hp)(x:Addr),aq a K b R p d L H'->aH R H H'->c7 a b p H' x->Q (.ref x) H')
theorem IM:aI ["self"] ["self"] (aB zY):=⟨rfl,rfl,rfl,by decide +kernel,rfl,by decide +kernel,by decide +kernel⟩
theorem lx(T:Tx P w K mg a):ay P w K mg base (bh P w) 7 a.oB a.nY ["self"] (Bx K a):=by
 refine T.bX.fn.bx IM (fun vs H Q E h=>?_) (fun cdv A outer s H vs Q E hr h=>?_)
 ·obtain⟨_,_,_,_,_,rfl,_⟩:=h;rfl
 obtain⟨b,R,p,d,L,rfl,hR,kb,kq⟩:=h
 have C:=T.bE.cl
 refine⟨_,ai (a5 (a6 Dy (aD (pv 0) rfl) ij (a4 _))
  (aj (c6 (pv 0) (aQ T.ET (OB T) hr au (aa (aD (pv 0) rfl) (aa (aD (pv 0) rfl) ag))) rfl)) ba) (aj (aN (aD (pv 0) rfl))),?_⟩
 obtain⟨dx,v,e,hv⟩:=hR.obj
 refine(rF rfl e C T.nq rfl ⟨rfl,eX _ rfl ?_⟩)
 rcases hv with rfl|⟨x,rfl,nb,tk⟩
 ·refine bK (rF rfl e C T.Bn rfl (rF rfl e C T.Av rfl ⟨R.t,b,p,rfl,hR.src,hR.pl,hR.len,fun nb=>?_,kb⟩))
  intro x H' sm fr tk
  have e':=sm _ _ e
  refine(eX _ rfl ⟨R.r,_,dx,eX _ rfl ⟨e',C,T.nq,(by show 5<1000;decide),?_⟩⟩)
  have h2:=(hR.same sm).put (v':=.ref x) (p':=p) (d':=d) e' (.inr ⟨x,rfl,nb,tk⟩) hR.pl
  refine(rF rfl aw C T.nq rfl ?_)
  exact kq nb _ x h2 ((bq sm).trans iV) (bY.keepR tk (hR.same sm) iV)
 ·exact cw (rF rfl e C T.nq rfl (kq nb H x hR (aH.refl _ _) tk))
def CI(K:PySem.W.Frag)(a:Ad):Sp:=fun vs H Q E=>∃(b:Bytes)(R:RA)(p d:Nat)(L:NL),vs=[.ref R.r]/\aq a K b R p d L H/\gK K a b p E/\
 (cz b p->∀(H':Hp)(x:Addr),aq a K b R (az b p) d L H'->aH R H H'->c7 a b p H' x->Q (.ref x) H')
theorem Es:aI ["self","token"] ["self"] (aB xJ):=⟨rfl,rfl,rfl,by decide +kernel,rfl,by decide +kernel,by decide +kernel⟩
theorem vL(T:Tx P w K mg a):ay P w K mg base (bh P w) 8 a.oV a.mU ["self"] (CI K a):=by
 refine T.cT.fn.bx Es (fun vs H Q E h=>?_) (fun cdv A outer s H vs Q E hr h=>?_)
 ·obtain⟨_,_,_,_,_,rfl,_⟩:=h;rfl
 obtain⟨b,R,p,d,L,rfl,hR,kb,kq⟩:=h
 have C:=T.bE.cl
 refine⟨_,ai (aY (i:=1) Es.nd rfl (Or.inl rfl) (cx (pv 0) C T.bX.mt (lx T) hr T.bX.bd .nil au))
  (ai (c6 (pv 0) ij rfl) (ai (c6 (pv 0) (aD (pv 1) rfl) rfl) (aj (aN (pv 1))))),?_⟩
 obtain⟨dx,v,e,hv⟩:=hR.obj
 refine(eX _ rfl ⟨R.r,dx,eX _ rfl ⟨e,rfl,b,R,p,d,L,rfl,hR,kb,fun nb H1 x hR1 kp1 tk1=>?_⟩⟩)
 obtain⟨dx1,v1,e1,hv1⟩:=hR1.obj
 refine(eX _ rfl ⟨R.r,_,dx1,eX _ rfl ⟨e1,C,T.nq,(by show 5<1000;decide),?_⟩⟩)
 have hR2:=hR1.put (v':=.ax) (p':=p) (d':=d) e1 (.inl rfl) hR.pl
 have tk2:=bY.keepR tk1 hR1 (iV (o:=.ins a.bj dx1 (lJ R.t .ax p d R.N.n)))
 obtain⟨dt,ft,et,lt1,lt2,lt3,lt4,lt5⟩:=tk2
 refine(rF rfl et T.bz.cl T.Eg lt5 (eX _ rfl ⟨R.r,_,dx1,eX _ rfl ⟨aw,C,T.Av,(by show 5<1000;decide),?_⟩⟩))
 have hR3:=hR2.put (v':=.ax) (p':=az b p) (d':=d) aw (.inl rfl) (xS hR.pl)
 exact(eX _ rfl (kq nb _ x hR3 ((kp1.trans iV).trans iV) (bY.keepR ⟨dt,ft,et,lt1,lt2,lt3,lt4,lt5⟩ hR2 iV)))
end Wale
end
section
set_option Elab.async false
set_option linter.all false
set_option maxRecDepth 100000
set_option maxHeartbeats 2000000
namespace Wale
open PySem PySem.Spec PyProof.Rows L2
open Wm
variable {P:Program}{w:World}{K:PySem.W.Frag}{mg:Str->Option Value}{base:Heap}{a:Ad}
def DA(K:PySem.W.Frag)(a:Ad):Sp:=fun vs H Q E=>∃(b:Bytes)(R:RA)(p d:Nat)(L:NL)(tx:Str),vs=[.ref R.r,.str tx]/\aq a K b R p d L H/\gK K a b p E/\
 (cz b p->bo (ao b p)=tx->∀H':Hp,aq a K b R (az b p) d L H'->aH R H H'->Q (.bl true) H')/\(cz b p->bo (ao b p)≠tx->∀H':Hp,aq a K b R p d L H'->aH R H H'->Q (.bl false) H')
theorem FX:aI ["self","text","there"] ["self","text"] (aB zW):=⟨rfl,rfl,rfl,by decide +kernel,rfl,by decide +kernel,by decide +kernel⟩
theorem KP(T:Tx P w K mg a):ay P w K mg base (bh P w) 9 a.mJ a.mS ["self","text"] (DA K a):=by
 refine T.d5.fn.bx FX (fun vs H Q E h=>?_) (fun cdv A outer s H vs Q E hr h=>?_)
 ·obtain⟨_,_,_,_,_,_,rfl,_⟩:=h;rfl
 obtain⟨b,R,p,d,L,tx,rfl,hR,kb,k1,k2⟩:=h
 have C:=T.bE.cl
 refine⟨_,ai (aY (i:=2) FX.nd rfl (Or.inl rfl) (jy cq (aD (cx (pv 0) C T.bX.mt (lx T) (hr.mono (by decide)) T.bX.bd .nil au) rfl) (pv 1) (a4 _)))
  (ai (a5 (cX (pv 2)) (aj (a3 (cx (pv 0) C T.cT.mt (vL T) hr T.cT.bd .nil au))) ba) (aj (aN (pv 2)))),?_⟩
 obtain⟨dx,v,e,hv⟩:=hR.obj
 refine(eX _ rfl ⟨R.r,dx,eX _ rfl ⟨e,rfl,b,R,p,d,L,rfl,hR,kb,fun nb H1 x hR1 kp1 tk1=>?_⟩⟩)
 obtain⟨dt,ft,et,lt1,lt2,lt3,lt4,lt5⟩:=tk1
 refine(rG rfl et T.bz.cl T.bZ lt2 (eX _ rfl ⟨rfl,eX _ rfl (eX _ rfl ?_)⟩))
 rw[cR]
 obtain⟨dx1,v1,e1,hv1⟩:=hR1.obj
 by_cases ht:bo (ao b p)=tx
 ·rw[decide_eq_true ht]
  refine bK (eX _ rfl ⟨R.r,dx1,eX _ rfl ⟨e1,rfl,b,R,p,d,L,rfl,hR1,kb,fun _ H2 y hR2 kp2 tk2=>?_⟩⟩)
  exact(eX _ rfl (k1 nb ht H2 hR2 (kp1.trans kp2)))
 ·rw[decide_eq_false ht]
  exact cw (eX _ rfl (k2 nb ht H1 hR1 kp1))
def zG(K:PySem.W.Frag)(a:Ad)(f:LsWale.Tok->Str):Sp:=fun vs H Q E=>∃(b:Bytes)(R:RA)(p d:Nat)(L:NL)(tx:Str),vs=[.ref R.r,.str tx]/\aq a K b R p d L H/\gK K a b p E/\
 (cz b p->f (ao b p)=tx->∀(H':Hp)(x:Addr),aq a K b R (az b p) d L H'->aH R H H'->c7 a b p H' x->Q (.ref x) H')/\(cz b p->f (ao b p)≠tx->Told K a E 3 (aS b p:Nat))
theorem Hm:aI ["self","text"] ["self","text"] (aB yM):=⟨rfl,rfl,rfl,by decide +kernel,rfl,by decide +kernel,by decide +kernel⟩
theorem Ag(T:Tx P w K mg a):ay P w K mg base (bh P w) 9 a.n0 a.my ["self","text"] (zG K a bo):=by
 refine T.cQ.fn.bx Hm (fun vs H Q E h=>?_) (fun cdv A outer s H vs Q E hr h=>?_)
 ·obtain⟨_,_,_,_,_,_,rfl,_⟩:=h;rfl
 obtain⟨b,R,p,d,L,tx,rfl,hR,kb,k1,k2⟩:=h
 have C:=T.bE.cl
 have hr7:bA 7 _:=hr.mono (by decide)
 refine⟨_,ai (a5 (a6 lB (aD (cx (pv 0) C T.bX.mt (lx T) hr7 T.bX.bd .nil au) rfl) (pv 1) (a4 _))
  (aj (eY rfl fj T.vR (CG T) T.yJ.2 (hr.mono (by decide)) (aD (cx (pv 0) C T.bX.mt (lx T) hr7 T.bX.bd .nil au) rfl))) ba)
  (aj (aN (cx (pv 0) C T.cT.mt (vL T) hr T.cT.bd .nil au))),?_⟩
 obtain⟨dx,v,e,hv⟩:=hR.obj
 refine(eX _ rfl ⟨R.r,dx,eX _ rfl ⟨e,rfl,b,R,p,d,L,rfl,hR,kb,fun nb H1 x hR1 kp1 tk1=>?_⟩⟩)
 obtain⟨dt,ft,et,lt1,lt2,lt3,lt4,lt5⟩:=tk1
 refine(rG rfl et T.bz.cl T.bZ lt2 (eX _ rfl ⟨rfl,eX _ rfl ?_⟩))
 rw[cR]
 obtain⟨dx1,v1,e1,hv1⟩:=hR1.obj
 by_cases ht:bo (ao b p)=tx
 ·refine sf ht ⟨_,rfl,R.r,dx1,_,rfl,e1,rfl,b,R,p,d,L,rfl,hR1,kb,fun _ H2 y hR2 kp2 tk2=>?_⟩
  exact k1 nb ht H2 y hR2 (kp1.trans kp2) tk2
 ·rw[decide_eq_false ht]
  refine bK (eX _ rfl ⟨R.r,dx1,eX _ rfl ⟨e1,rfl,b,R,p,d,L,rfl,hR1,kb,fun _ H2 y hR2 kp2 tk2=>?_⟩⟩)
  obtain⟨du,fu,eu,lu1,lu2,lu3,lu4,lu5⟩:=tk2
  exact(rG rfl eu T.bz.cl T.gL lu4 (eA T.vR (k2 nb ht)))
theorem HI:aI ["self","kind"] ["self","kind"] (aB w9):=⟨rfl,rfl,rfl,by decide +kernel,rfl,by decide +kernel,by decide +kernel⟩
theorem vb(T:Tx P w K mg a):ay P w K mg base (bh P w) 9 a.mq a.nM ["self","kind"] (zG K a fo):=by
 refine T.fJ.fn.bx HI (fun vs H Q E h=>?_) (fun cdv A outer s H vs Q E hr h=>?_)
 ·obtain⟨_,_,_,_,_,_,rfl,_⟩:=h;rfl
 obtain⟨b,R,p,d,L,tx,rfl,hR,kb,k1,k2⟩:=h
 have C:=T.bE.cl
 have hr7:bA 7 _:=hr.mono (by decide)
 refine⟨_,ai (a5 (a6 lB (aD (cx (pv 0) C T.bX.mt (lx T) hr7 T.bX.bd .nil au) rfl) (pv 1) (a4 _))
  (aj (eY rfl fj T.vR (CG T) T.yJ.2 (hr.mono (by decide)) (aD (cx (pv 0) C T.bX.mt (lx T) hr7 T.bX.bd .nil au) rfl))) ba)
  (aj (aN (cx (pv 0) C T.cT.mt (vL T) hr T.cT.bd .nil au))),?_⟩
 obtain⟨dx,v,e,hv⟩:=hR.obj
 refine(eX _ rfl ⟨R.r,dx,eX _ rfl ⟨e,rfl,b,R,p,d,L,rfl,hR,kb,fun nb H1 x hR1 kp1 tk1=>?_⟩⟩)
 obtain⟨dt,ft,et,lt1,lt2,lt3,lt4,lt5⟩:=tk1
 refine(rG rfl et T.bz.cl T.kj lt1 (eX _ rfl ⟨rfl,eX _ rfl ?_⟩))
 rw[cR]
 obtain⟨dx1,v1,e1,hv1⟩:=hR1.obj
 by_cases ht:fo (ao b p)=tx
 ·refine sf ht ⟨_,rfl,R.r,dx1,_,rfl,e1,rfl,b,R,p,d,L,rfl,hR1,kb,fun _ H2 y hR2 kp2 tk2=>?_⟩
  exact k1 nb ht H2 y hR2 (kp1.trans kp2) tk2
 ·rw[decide_eq_false ht]
  refine bK (eX _ rfl ⟨R.r,dx1,eX _ rfl ⟨e1,rfl,b,R,p,d,L,rfl,hR1,kb,fun _ H2 y hR2 kp2 tk2=>?_⟩⟩)
  obtain⟨du,fu,eu,lu1,lu2,lu3,lu4,lu5⟩:=tk2
  exact(rG rfl eu T.bz.cl T.gL lu4 (eA T.vR (k2 nb ht)))
def BJ(K:PySem.W.Frag)(a:Ad):Sp:=fun vs H Q E=>∃(b:Bytes)(R:RA)(p d:Nat)(L:NL)(tx:Str),vs=[.ref R.r,.str tx]/\aq a K b R p d L H/\gK K a b p E/\
 (cz b p->bo (ao b p)≠tx->Told K a E 3 (aS b p:Nat))/\(cz b p->bo (ao b p)=tx->d=8->Told K a E 6 (aS b p:Nat))/\
 (cz b p->bo (ao b p)=tx->d≠8->∀H':Hp,aq a K b R (az b p) (d+1) L H'->aH R H H'->Q .ax H')
theorem EB:aI ["self","text","token"] ["self","text"] (aB wk):=⟨rfl,rfl,rfl,by decide +kernel,rfl,by decide +kernel,by decide +kernel⟩
theorem NB(T:Tx P w K mg a):ay P w K mg base (bh P w) 10 a.nP a.o3 ["self","text"] (BJ K a):=by
 refine T.lN.fn.bx EB (fun vs H Q E h=>?_) (fun cdv A outer s H vs Q E hr h=>?_)
 ·obtain⟨_,_,_,_,_,_,rfl,_⟩:=h;rfl
 obtain⟨b,R,p,d,L,tx,rfl,hR,kb,k1,k2,k3⟩:=h
 have C:=T.bE.cl
 refine⟨_,ai (aY (i:=2) EB.nd rfl (Or.inl rfl) (aZ (pv 0) C T.cQ.mt (Ag T) hr T.cQ.bd .nil au (aa (pv 1) ag)))
  (ai (a5 (a6 cq (aD (pv 0) rfl) (cP T.J1) (a4 _)) (aj (eY rfl fj T.jB (vO T) T.qf.2 (hr.mono (by decide)) (aD (pv 2) rfl))) ba)
  (aj (CQ (pv 0) bW KH))),?_⟩
 obtain⟨dx,v,e,hv⟩:=hR.obj
 refine⟨_,rfl,R.r,dx,_,rfl,e,rfl,_,rfl,b,R,p,d,L,tx,rfl,hR,kb,fun nb ht H1 x hR1 kp1 tk1=>?_,k1⟩
 obtain⟨dx1,v1,e1,hv1⟩:=hR1.obj
 refine⟨_,rfl,R.r,_,dx1,_,_,rfl,e1,C,T.va,rfl,rfl,_,rfl,?_⟩
 rw[fS]
 refine aV (fun c=>?_) (fun c=>?_)
 ·obtain⟨dt,ft,et,lt1,lt2,lt3,lt4,lt5⟩:=tk1
  exact⟨_,rfl,x,_,dt,ft,_,rfl,et,T.bz.cl,T.gL,lt4,eA T.jB (k2 nb ht (by have:=of_decide_eq_true c;lia))⟩
 ·refine⟨_,rfl,R.r,_,dx1,_,_,rfl,e1,C,T.va,rfl,_,_,rfl,rfl,dx1,_,e1,(by show 5<1000;decide),?_⟩
  exact k3 nb ht (fun z=>c (decide_eq_true (by rw[z];rfl))) _ (hR1.put (v':=v1) (p':=az b p) (d':=d+1) e1 hv1 hR1.pl) (kp1.trans iV)
def E8(K:PySem.W.Frag)(a:Ad):Sp:=fun vs H Q E=>∃(b:Bytes)(R:RA)(p d:Nat)(L:NL)(tx:Str),vs=[.ref R.r,.str tx]/\aq a K b R p (d+1) L H/\gK K a b p E/\
 (cz b p->bo (ao b p)≠tx->Told K a E 3 (aS b p:Nat))/\(cz b p->bo (ao b p)=tx->∀H':Hp,aq a K b R (az b p) d L H'->aH R H H'->Q .ax H')
theorem II:aI ["self","text"] ["self","text"] (aB zR):=⟨rfl,rfl,rfl,by decide +kernel,rfl,by decide +kernel,by decide +kernel⟩
theorem Og(T:Tx P w K mg a):ay P w K mg base (bh P w) 10 a.oM a.nX ["self","text"] (E8 K a):=by
 refine T.lg.fn.bx II (fun vs H Q E h=>?_) (fun cdv A outer s H vs Q E hr h=>?_)
 ·obtain⟨_,_,_,_,_,_,rfl,_⟩:=h;rfl
 obtain⟨b,R,p,d,L,tx,rfl,hR,kb,k1,k2⟩:=h
 have C:=T.bE.cl
 refine⟨_,ai (a3 (aZ (pv 0) C T.cQ.mt (Ag T) hr T.cQ.bd .nil au (aa (pv 1) ag))) (aj (CQ (pv 0) bW LA)),?_⟩
 obtain⟨dx,v,e,hv⟩:=hR.obj
 refine⟨_,rfl,R.r,dx,_,rfl,e,rfl,_,rfl,b,R,p,d+1,L,tx,rfl,hR,kb,fun nb ht H1 x hR1 kp1 tk1=>?_,k1⟩
 obtain⟨dx1,v1,e1,hv1⟩:=hR1.obj
 refine⟨_,rfl,R.r,_,dx1,_,_,rfl,e1,C,T.va,rfl,_,_,rfl,rfl,dx1,_,e1,(by show 5<1000;decide),?_⟩
 have ed:((d+1:Nat):Int)-1=(d:Int):=by lia
 have h2:=hR1.put (v':=v1) (p':=az b p) (d':=d) e1 hv1 hR1.pl
 have h3:aH R H1 (upd H1 R.r (.ins a.bj dx1 (lJ R.t v1 (az b p) d R.N.n))):=iV
 show Q .ax (upd H1 R.r (.ins a.bj dx1 [("source",.ref R.t),("ahead",v1),("after",.int (az b p:Nat)),("depth",.int (((d+1:Nat):Int)-1)),("names",.ref R.N.n)]))
 rw[ed]
 exact k2 nb ht _ h2 (kp1.trans h3)
def nameAt(b:Bytes)(p:Nat):Option Bytes:=match ao b p with
 | .word x=>if LsWale.isName x=true then some x else none
 |_=>none
theorem gu{b:Bytes}{p:Nat}:fo (ao b p)=("name":Str)↔∃x,nameAt b p=some x:=by
 unfold nameAt
 cases ao b p with
 |word x=>
  show dP x=_↔_
  unfold dP
  by_cases h:LsWale.isName x=true
  ·simp only[if_pos h];exact⟨fun _=>⟨x,rfl⟩,fun _=>True.intro⟩
  ·simp only[if_neg h];exact⟨fun z=>absurd z (by decide +kernel),fun⟨_,z⟩=>by cases z⟩
 |num n=>exact⟨fun z=>absurd z (by show ¬(("number":Str)="name");decide +kernel),fun⟨_,z⟩=>by cases z⟩
 |sign c=>exact⟨fun z=>absurd z (by show ¬(("fixed":Str)="name");decide +kernel),fun⟨_,z⟩=>by cases z⟩
 |bad k=>exact⟨fun z=>absurd z (by show ¬(("":Str)="name");decide +kernel),fun⟨_,z⟩=>by cases z⟩
 |done=>exact⟨fun z=>absurd z (by show ¬(("end":Str)="name");decide +kernel),fun⟨_,z⟩=>by cases z⟩
theorem tX{b:Bytes}{p:Nat}{x:Bytes}(h:nameAt b p=some x):ao b p=.word x/\LsWale.isName x=true:=by
 unfold nameAt at h
 cases q:ao b p with
 |word y=>
  rw[q]at h
  simp only at h
  by_cases hy:LsWale.isName y=true
  ·rw[if_pos hy]at h;cases h;exact⟨rfl,hy⟩
  ·rw[if_neg hy]at h;cases h
 |_=>rw[q]at h;cases h
theorem j2{b:Bytes}{p:Nat}{x:Bytes}(h:nameAt b p=some x):bo (ao b p)=strOf x:=by rw[(tX h).1];rfl
def Ha(K:PySem.W.Frag)(a:Ad):Sp:=fun vs H Q E=>∃(b:Bytes)(R:RA)(p d:Nat)(L:NL)(k:Kd),vs=[.ref R.r,.str (a7 k)]/\aq a K b R p d L H/\gK K a b p E/\
 (cz b p->nameAt b p=none->Told K a E 3 (aS b p:Nat))/\∀x,nameAt b p=some x->(¬dF L x->Told K a E 5 (aS b p:Nat))/\(dF L x->(L k).length=bF k->Told K a E 6 (aS b p:Nat))/\
  (dF L x->(L k).length≠bF k->∀(H':Hp)(y:Addr),aq a K b R (az b p) d L H'->aH R H H'->c7 a b p H' y->Q (.ref y) H')
theorem DP:aI ["self","kind","token"] ["self","kind"] (aB AE):=⟨rfl,rfl,rfl,by decide +kernel,rfl,by decide +kernel,by decide +kernel⟩
theorem NK(T:Tx P w K mg a):ay P w K mg base (bh P w) 10 a.oE a.om ["self","kind"] (Ha K a):=by
 refine T.jk.fn.bx DP (fun vs H Q E h=>?_) (fun cdv A outer s H vs Q E hr h=>?_)
 ·obtain⟨_,_,_,_,_,_,rfl,_⟩:=h;rfl
 obtain⟨b,R,p,d,L,k,rfl,hR,kb,k1,k2⟩:=h
 have C:=T.bE.cl
 refine⟨_,ai (aY (i:=2) DP.nd rfl (Or.inl rfl) (aZ (pv 0) C T.fJ.mt (vb T) hr T.fJ.bd .nil au (aa (bB T.jA) ag)))
  (ai (a3 (aZ (aD (pv 0) rfl) T.cA.cl T.wJ.mt (Qb T) (hr.mono (by decide)) T.wJ.bd .nil au (aa (pv 2) (aa (pv 1) ag)))) (aj (aN (pv 2)))),?_⟩
 obtain⟨dx,v,e,hv⟩:=hR.obj
 refine(eX _ rfl ⟨R.r,dx,eX _ rfl ⟨e,rfl,b,R,p,d,L,"name",rfl,hR,kb,fun nb hk H1 y hR1 kp1 tk1=>?_,fun nb hk=>k1 nb ?_⟩⟩)
 ·obtain⟨x,hx⟩:=gu.mp hk
  obtain⟨q1,q2,q3⟩:=k2 x hx
  obtain⟨dx1,v1,e1,hv1⟩:=hR1.obj
  obtain⟨dn,en⟩:=hR1.nm.obj
  have tk1':=tk1
  unfold c7 at tk1'
  rw[j2 hx]at tk1'
  exact(rF rfl e1 C T.fP rfl (rN rfl en rfl (eX _ rfl (eX _ rfl ⟨R.N,L,k,y,x,_,_,_,eX _ rfl ⟨hR1.nm,tk1',q1,q2,fun u l=>(eX _ rfl (q3 u l H1 y hR1 kp1 tk1))⟩⟩))))
 ·cases hx:nameAt b p with
  |none=>rfl
  |some x=>exact absurd (gu.mpr ⟨x,hx⟩) hk
def Gg(K:PySem.W.Frag)(a:Ad):Sp:=fun vs H Q E=>∃(b:Bytes)(R:RA)(p d:Nat)(L:NL)(k:Kd),vs=[.ref R.r,.str (a7 k)]/\aq a K b R p d L H/\df k=true/\gK K a b p E/\
 (cz b p->nameAt b p=none->Told K a E 3 (aS b p:Nat))/\∀x,nameAt b p=some x->(x∉L k->Told K a E 4 (aS b p:Nat))/\(x∈L k->∀H':Hp,aq a K b R (az b p) d L H'->aH R H H'->Q (.str (strOf x)) H')
theorem CK:aI ["self","kind","token"] ["self","kind"] (aB wB):=⟨rfl,rfl,rfl,by decide +kernel,rfl,by decide +kernel,by decide +kernel⟩
theorem M8(T:Tx P w K mg a):ay P w K mg base (bh P w) 10 a.oZ a.o2 ["self","kind"] (Gg K a):=by
 refine T.iI.fn.bx CK (fun vs H Q E h=>?_) (fun cdv A outer s H vs Q E hr h=>?_)
 ·obtain⟨_,_,_,_,_,_,rfl,_⟩:=h;rfl
 obtain⟨b,R,p,d,L,k,rfl,hR,ht,kb,k1,k2⟩:=h
 have C:=T.bE.cl
 refine⟨_,ai (aY (i:=2) CK.nd rfl (Or.inl rfl) (aZ (pv 0) C T.fJ.mt (vb T) hr T.fJ.bd .nil au (aa (bB T.jA) ag)))
  (ai (a3 (aZ (aD (pv 0) rfl) T.cA.cl T.y1.mt (Pz T) (hr.mono (by decide)) T.y1.bd .nil au (aa (pv 2) (aa (pv 1) ag)))) (aj (aN (aD (pv 2) rfl)))),?_⟩
 obtain⟨dx,v,e,hv⟩:=hR.obj
 refine(eX _ rfl ⟨R.r,dx,eX _ rfl ⟨e,rfl,b,R,p,d,L,"name",rfl,hR,kb,fun nb hk H1 y hR1 kp1 tk1=>?_,fun nb hk=>k1 nb ?_⟩⟩)
 ·obtain⟨x,hx⟩:=gu.mp hk
  obtain⟨q1,q2⟩:=k2 x hx
  obtain⟨dx1,v1,e1,hv1⟩:=hR1.obj
  obtain⟨dn,en⟩:=hR1.nm.obj
  unfold c7 at tk1
  rw[j2 hx]at tk1
  have tk1':=tk1
  obtain⟨dt,ft,et,lt1,lt2,lt3,lt4,lt5⟩:=tk1'
  exact⟨_,rfl,R.r,_,dx1,_,_,rfl,e1,C,T.fP,rfl,R.N.n,dn,_,rfl,en,rfl,_,rfl,_,rfl,R.N,L,k,y,x,_,_,_,_,rfl,hR1.nm,tk1,ht,
   fun m=>(rF rfl et T.bz.cl T.bZ lt2 (q2 m H1 hR1 kp1)),q1⟩
 ·cases hx:nameAt b p with
  |none=>rfl
  |some x=>exact absurd (gu.mpr ⟨x,hx⟩) hk
def Bs(K:PySem.W.Frag)(a:Ad):Sp:=fun vs H Q E=>∃(b:Bytes)(R:RA)(p d:Nat)(L:NL)(k:Kd),vs=[.ref R.r,.str (a7 k)]/\aq a K b R p d L H/\df k=false/\gK K a b p E/\
 (cz b p->nameAt b p=none->Told K a E 3 (aS b p:Nat))/\∀x,nameAt b p=some x->(x∉L k->(L k).length=bF k->Told K a E 6 (aS b p:Nat))/\
  ((x∈L k\/(L k).length≠bF k)->∀H':Hp,aq a K b R (az b p) d (jx L k x) H'->aH R H H'->Q (.str (strOf x)) H')
theorem A8:aI ["self","kind","token"] ["self","kind"] (aB Ab):=⟨rfl,rfl,rfl,by decide +kernel,rfl,by decide +kernel,by decide +kernel⟩
theorem IL(T:Tx P w K mg a):ay P w K mg base (bh P w) 10 a.mB a.oJ ["self","kind"] (Bs K a):=by
 refine T.ji.fn.bx A8 (fun vs H Q E h=>?_) (fun cdv A outer s H vs Q E hr h=>?_)
 ·obtain⟨_,_,_,_,_,_,rfl,_⟩:=h;rfl
 obtain⟨b,R,p,d,L,k,rfl,hR,ht,kb,k1,k2⟩:=h
 have C:=T.bE.cl
 refine⟨_,ai (aY (i:=2) A8.nd rfl (Or.inl rfl) (aZ (pv 0) C T.fJ.mt (vb T) hr T.fJ.bd .nil au (aa (bB T.jA) ag)))
  (ai (a3 (aZ (aD (pv 0) rfl) T.cA.cl T.yW.mt (LL T) (hr.mono (by decide)) T.yW.bd .nil au (aa (pv 2) (aa (pv 1) ag)))) (aj (aN (aD (pv 2) rfl)))),?_⟩
 obtain⟨dx,v,e,hv⟩:=hR.obj
 refine(eX _ rfl ⟨R.r,dx,eX _ rfl ⟨e,rfl,b,R,p,d,L,"name",rfl,hR,kb,fun nb hk H1 y hR1 kp1 tk1=>?_,fun nb hk=>k1 nb ?_⟩⟩)
 ·obtain⟨x,hx⟩:=gu.mp hk
  obtain⟨q1,q2⟩:=k2 x hx
  obtain⟨dx1,v1,e1,hv1⟩:=hR1.obj
  obtain⟨dn,en⟩:=hR1.nm.obj
  unfold c7 at tk1
  rw[j2 hx]at tk1
  refine(rF rfl e1 C T.fP rfl (rN rfl en rfl (eX _ rfl (eX _ rfl ⟨R.N,L,k,y,x,_,_,_,eX _ rfl ⟨hR1.nm,tk1,ht,q1,fun c H2 n2 kn=>?_⟩⟩))))
  obtain⟨dt,ft,et,lt1,lt2,lt3,lt4,lt5⟩:=bY.keepR tk1 hR1 kn.keepR
  exact(rF rfl et T.bz.cl T.bZ lt2 (q2 c H2 (hR1.names kn n2) (kp1.trans kn.keepR)))
 ·cases hx:nameAt b p with
  |none=>rfl
  |some x=>exact absurd (gu.mpr ⟨x,hx⟩) hk
end Wale
end
section
set_option Elab.async false
set_option linter.all false
set_option maxRecDepth 100000
set_option maxHeartbeats 2000000
namespace Wale
open PySem PySem.Spec PyProof.Rows L2
open Wm
variable {P:Program}{w:World}{K:PySem.W.Frag}{mg:Str->Option Value}{base:Heap}{a:Ad}
abbrev Fp:=Addr->Prop
abbrev Rep(α:Type):=Hp->Fp->V->α->Prop
structure Good{α:Type}(r:Rep α):Prop where
 frame:∀{H H':Hp}{F:Fp}{v:V}{x:α},r H F v x->(∀b,F b->H' b=H b)->r H' F v x
 mono:∀{H:Hp}{F F':Fp}{v:V}{x:α},r H F v x->(∀b,F b->F' b)->r H F' v x
def b9(H0 H:Hp)(F:Fp):Prop:=∀b,F b->H0 b=none/\∃o,H b=some o
def cp(H H':Hp):Prop:=∀b,H b≠none->H' b≠none
def Md{α:Type}(r:Rep α)(H0 H:Hp)(v:V)(x:α):Prop:=∃F,r H F v x/\b9 H0 H F
theorem cp.refl(H:Hp):cp H H:=fun _ h=>h
theorem cp.trans{H H1 H2:Hp}(h:cp H H1)(g:cp H1 H2):cp H H2:=fun b z=>g b (h b z)
theorem DK{H H':Hp}(h:aK H H'):cp H H':=fun b z=>by
 cases e:H b with
 |none=>exact absurd e z
 |some o=>rw[h b o e];exact fun q=>nomatch q
theorem sh{H:Hp}{p:Addr}{o:HO}:cp H (upd H p o):=fun b z=>by
 by_cases h:b=p
 ·rw[h,aw];exact fun q=>nomatch q
 ·rw[ak h];exact z
theorem cp.none{H H':Hp}(h:cp H H'){b:Addr}(e:H' b=none):H b=none:=by
 cases q:H b with
 |none=>rfl
 |some o=>exact absurd e (h b (by rw[q];exact fun z=>nomatch z))
section
variable {b:Bytes}{R:RA}{p d:Nat}{L:NL}{H0 H H' H1:Hp}
structure mT(R:RA)(H:Hp):Prop where
 r:H R.r≠none
 td:H R.N.td≠none
 sd:H R.N.sd≠none
 ad:H R.N.ad≠none
theorem aq.cells(h:aq a K b R p d L H):mT R H:=by
 obtain⟨dx,v,e,-⟩:=h.obj
 obtain⟨k1,e1,-⟩:=h.nm.fZ
 obtain⟨k2,e2,-⟩:=h.nm.ib
 obtain⟨k3,e3,-⟩:=h.nm.gj
 exact⟨(by rw[e];exact fun z=>nomatch z),(by rw[e1];exact fun z=>nomatch z),(by rw[e2];exact fun z=>nomatch z),(by rw[e3];exact fun z=>nomatch z)⟩
theorem aH.grow(k:aH R H H')(c:mT R H'):cp H H':=fun b z=>by
 by_cases h1:b=R.r
 ·rw[h1];exact c.r
 by_cases h2:b=R.N.td
 ·rw[h2];exact c.td
 by_cases h3:b=R.N.sd
 ·rw[h3];exact c.sd
 by_cases h4:b=R.N.ad
 ·rw[h4];exact c.ad
 cases e:H b with
 |none=>exact absurd e z
 |some o=>rw[k b o e h1 h2 h3 h4];exact fun q=>nomatch q
theorem b9.eq{F:Fp}(s:b9 H0 H F)(c:mT R H0)(k:aH R H H'):∀b,F b->H' b=H b:=fun b hb=>by
 obtain⟨n,o,e⟩:=s b hb
 rw[e]
 exact k b o e (fun z=>c.r (by rw[<-z];exact n)) (fun z=>c.td (by rw[<-z];exact n)) (fun z=>c.sd (by rw[<-z];exact n)) (fun z=>c.ad (by rw[<-z];exact n))
theorem b9.keep{F:Fp}(s:b9 H0 H F)(c:mT R H0)(k:aH R H H'):b9 H0 H' F:=fun b hb=>⟨(s b hb).1,by rw[s.eq c k b hb];exact(s b hb).2⟩
theorem b9.old{F:Fp}(s:b9 H1 H F)(g:cp H0 H1):b9 H0 H F:=fun b hb=>⟨g.none (s b hb).1,(s b hb).2⟩
theorem b9.same{F:Fp}(s:b9 H0 H F)(k:aK H H'):b9 H0 H' F:=fun b hb=>by
 obtain⟨n,o,e⟩:=s b hb
 exact⟨n,o,k b o e⟩
theorem b9.vK{F:Fp}(s:b9 H0 H F)(k:aK H H'):∀b,F b->H' b=H b:=fun b hb=>by
 obtain⟨n,o,e⟩:=s b hb
 rw[e];exact k b o e
theorem b9.or{F F':Fp}(s:b9 H0 H F)(s':b9 H0 H F'):b9 H0 H (fun b=>F b\/F' b):=fun b hb=>hb.elim (s b) (s' b)
theorem b9.put{F:Fp}{l:Addr}{o:HO}(s:b9 H0 H F):b9 H0 (upd H l o) F:=fun b hb=>by
 obtain⟨n,q,e⟩:=s b hb
 refine⟨n,?_⟩
 by_cases z:b=l
 ·rw[z,aw];exact⟨_,rfl⟩
 ·rw[ak z];exact⟨q,e⟩
variable {α:Type}{r:Rep α}{v:V}{x:α}
theorem Md.keep(m:Md r H0 H v x)(G:Good r)(c:mT R H0)(k:aH R H H'):Md r H0 H' v x:=by
 obtain⟨F,h,s⟩:=m
 exact⟨F,G.frame h (s.eq c k),s.keep c k⟩
theorem Md.old(m:Md r H1 H v x)(g:cp H0 H1):Md r H0 H v x:=by
 obtain⟨F,h,s⟩:=m
 exact⟨F,h,s.old g⟩
theorem Md.same(m:Md r H0 H v x)(G:Good r)(k:aK H H'):Md r H0 H' v x:=by
 obtain⟨F,h,s⟩:=m
 exact⟨F,G.frame h (s.vK k),s.same k⟩
theorem Md.put{l:Addr}{o:HO}(m:Md r H0 H v x)(G:Good r)(hl:H0 l≠none):Md r H0 (upd H l o) v x:=by
 obtain⟨F,h,s⟩:=m
 exact⟨F,G.frame h (fun b hb=>ak (fun z=>hl (by rw[<-z];exact(s b hb).1))),s.put⟩
theorem Md.map{β:Type}{r':Rep β}{y:β}(m:Md r H0 H v x)(h:∀F,r H F v x->r' H F v y):Md r' H0 H v y:=by
 obtain⟨F,q,s⟩:=m
 exact⟨F,h F q,s⟩
end
inductive dG{α β:Type}(r:α->β->Prop):List α->List β->Prop where
 |nil:dG r [] []
 |cons {x:α} {y:β} {xs:List α} {ys:List β}:r x y->dG r xs ys->dG r (x::xs) (y::ys)
theorem dG.imp{α β:Type}{r r':α->β->Prop}(h:∀x y,r x y->r' x y){xs:List α}{ys:List β}(q:dG r xs ys):dG r' xs ys:=by
 induction q with
 |nil=>exact .nil
 |cons a _ ih=>exact .cons (h _ _ a) ih
theorem dG.len{α β:Type}{r:α->β->Prop}{xs:List α}{ys:List β}(q:dG r xs ys):xs.length=ys.length:=by
 induction q with
 |nil=>rfl
 |cons a _ ih=>rw[List.length_cons,List.length_cons,ih]
theorem dG.app{α β:Type}{r:α->β->Prop}{xs xs':List α}{ys ys':List β}(q:dG r xs ys)(q':dG r xs' ys'):dG r (xs++xs') (ys++ys'):=by
 induction q with
 |nil=>exact q'
 |cons a _ ih=>exact .cons a ih
def cE{α:Type}(r:Rep α):Rep (List α):=fun H F v xs=>∃(l:Addr)(vs:List V)(F':Fp),v=.ref l/\F l/\¬F' l/\(∀b,F' b->F b)/\H l=some (.lst vs)/\dG (r H F') vs xs
theorem bT{α:Type}{r:Rep α}(G:Good r):Good (cE r) where
 frame:=by
  rintro H H' F v x ⟨l,vs,F',rfl,h1,h2,h3,h4,h5⟩ e
  exact⟨l,vs,F',rfl,h1,h2,h3,by rw[e l h1];exact h4,h5.imp fun v x q=>G.frame q fun b hb=>e b (h3 b hb)⟩
 mono:=by
  rintro H F F2 v x ⟨l,vs,F',rfl,h1,h2,h3,h4,h5⟩ m
  exact⟨l,vs,F',rfl,m l h1,h2,fun b hb=>m b (h3 b hb),h4,h5⟩
section
variable {α:Type}{r:Rep α}{H0 H H' H1:Hp}{v:V}{x:α}{vs:List V}{xs:List α}
def aM(r:Rep α)(H0 H:Hp)(vs:List V)(xs:List α):Prop:=∃F,dG (r H F) vs xs/\b9 H0 H F
theorem aM.nil:aM r H0 H [] []:=⟨fun _=>False,.nil,fun _ h=>h.elim⟩
theorem aM.cons(G:Good r)(m:Md r H0 H v x)(ms:aM r H0 H vs xs):aM r H0 H (v::vs) (x::xs):=by
 obtain⟨F,h,s⟩:=m
 obtain⟨F',h',s'⟩:=ms
 exact⟨_,.cons (G.mono h fun b hb=>.inl hb) (h'.imp fun _ _ q=>G.mono q fun b hb=>.inr hb),s.or s'⟩
theorem aM.list{l:Addr}(G:Good r)(ms:aM r H0 H vs xs)(hl:H l=none)(g:cp H0 H):Md (cE r) H0 (upd H l (.lst vs)) (.ref l) xs:=by
 obtain⟨F,h,s⟩:=ms
 have nl:¬F l:=fun z=>by obtain⟨_,o,e⟩:=s l z;rw[hl]at e;cases e
 refine⟨fun b=>b=l\/F b,⟨l,vs,F,rfl,.inl rfl,nl,fun b hb=>.inr hb,aw,h.imp fun _ _ q=>G.frame q fun b hb=>ak fun z=>nl (by rw[<-z];exact hb)⟩,fun b hb=>?_⟩
 rcases hb with rfl|hb
 ·exact⟨g.none hl,_,aw⟩
 ·exact s.put b hb
theorem Md.cell{l:Addr}(m:Md (cE r) H0 H (.ref l) xs):H0 l=none/\∃vs,H l=some (.lst vs)/\vs.length=xs.length:=by
 obtain⟨F,⟨l',vs,F',e,h1,h2,h3,h4,h5⟩,s⟩:=m
 cases e
 exact⟨(s _ h1).1,vs,h4,h5.len⟩
theorem Md.ref{v:V}(m:Md (cE r) H0 H v xs):∃l,v=.ref l:=by
 obtain⟨F,⟨l',vs,F',e,-⟩,s⟩:=m
 exact⟨l',e⟩
theorem Md.append{l:Addr}{vs:List V}(G:Good r)(m:Md (cE r) H0 H (.ref l) xs)(e:H l=some (.lst vs))(n:Md r H1 H v x)(hl:H1 l≠none)(g:cp H0 H1):Md (cE r) H0 (upd H l (.lst (vs++[v]))) (.ref l) (xs++[x]):=by
 obtain⟨F,⟨l',vs',F',z,h1,h2,h3,h4,h5⟩,s⟩:=m
 cases z
 rw[e]at h4
 cases h4
 obtain⟨F2,q,s2⟩:=n
 have n2:¬F2 l:=fun z=>hl (s2 l z).1
 refine⟨fun b=>F b\/F2 b,⟨l,_,fun b=>F' b\/F2 b,rfl,.inl h1,fun z=>z.elim h2 n2,fun b hb=>hb.elim (fun z=>.inl (h3 b z)) .inr,aw,?_⟩,(s.or (s2.old g)).put⟩
 refine dG.app (h5.imp fun _ _ z=>?_) (.cons ?_ .nil)
 ·exact G.mono (G.frame z fun b hb=>ak fun y=>h2 (by rw[<-y];exact hb)) fun b hb=>.inl hb
 ·exact G.mono (G.frame q fun b hb=>ak fun y=>n2 (by rw[<-y];exact hb)) fun b hb=>.inr hb
theorem Md.extend{l l2:Addr}{vs ws:List V}{ys:List α}(G:Good r)(m:Md (cE r) H0 H (.ref l) xs)(e:H l=some (.lst vs))(n:Md (cE r) H1 H (.ref l2) ys)(e2:H l2=some (.lst ws))(hl:H1 l≠none)(g:cp H0 H1):Md (cE r) H0 (upd H l (.lst (vs++ws))) (.ref l) (xs++ys):=by
 obtain⟨F,⟨l',vs',F',z,h1,h2,h3,h4,h5⟩,s⟩:=m
 cases z
 rw[e]at h4
 cases h4
 obtain⟨F2,⟨l',ws',F2',z,k1,k2,k3,k4,k5⟩,s2⟩:=n
 cases z
 rw[e2]at k4
 cases k4
 have n2:¬F2 l:=fun z=>hl (s2 l z).1
 have n2':¬F2' l:=fun z=>n2 (k3 l z)
 refine⟨fun b=>F b\/F2 b,⟨l,_,fun b=>F' b\/F2' b,rfl,.inl h1,fun z=>z.elim h2 n2',fun b hb=>hb.elim (fun z=>.inl (h3 b z)) fun z=>.inr (k3 b z),aw,?_⟩,(s.or (s2.old g)).put⟩
 refine dG.app (h5.imp fun _ _ z=>?_) (k5.imp fun _ _ z=>?_)
 ·exact G.mono (G.frame z fun b hb=>ak fun y=>h2 (by rw[<-y];exact hb)) fun b hb=>.inl hb
 ·exact G.mono (G.frame z fun b hb=>ak fun y=>n2' (by rw[<-y];exact hb)) fun b hb=>.inr hb
end
section
variable {b:Bytes}{R:RA}{p d p0 d0:Nat}{L L0:NL}{H0 H H' H1:Hp}
theorem aq.list{l:Addr}{vs ws:List V}(h:aq a K b R p d L H)(h0:aq a K b R p0 d0 L0 H0)(hl:H0 l=none)(e:H l=some (.lst vs)):aq a K b R p d L (upd H l (.lst ws)):=by
 obtain⟨dx,v,er,hv⟩:=h.obj
 obtain⟨k1,e1,t1⟩:=h.nm.fZ
 obtain⟨k2,e2,t2⟩:=h.nm.ib
 obtain⟨k3,e3,t3⟩:=h.nm.gj
 obtain⟨dn,en⟩:=h.nm.obj
 have nn:∀{q:Addr}{o:HO},H q=some o->(∀ws,o≠ .lst ws)->upd H l (.lst ws) q=some o:=fun{q o}eq no=>by
  rw[ak (fun z=>by rw[z,e]at eq;cases eq;exact no _ rfl)];exact eq
 refine⟨⟨dx,v,nn er (fun _ z=>nomatch z),?_⟩,?_,⟨⟨dn,nn en (fun _ z=>nomatch z)⟩,⟨k1,nn e1 (fun _ z=>nomatch z),t1⟩,⟨k2,nn e2 (fun _ z=>nomatch z),t2⟩,⟨k3,nn e3 (fun _ z=>nomatch z),t3⟩,h.nm.ne,h.nm.bd⟩,h.len,h.pl⟩
 ·rcases hv with hv|⟨x,ev,nb,dt,ft,et,rest⟩
  ·exact .inl hv
  ·exact .inr ⟨x,ev,nb,dt,ft,nn et (fun _ z=>nomatch z),rest⟩
 ·have nt:aF K H0 R.t (nums b)->aF K H R.t (nums b)->aF K (upd H l (.lst ws)) R.t (nums b):=fun s0 s=>by
   rcases s0 with s0|s0
   ·have ne:R.t≠l:=fun z=>by
     rcases s0 with q|⟨o,q⟩
     ·rw[z,hl]at q;cases q
     ·rw[z,hl]at q;cases q
    rcases s with s|s
    ·rcases s with q|⟨o,q⟩
     ·exact .inl (.inl (by rw[ak ne];exact q))
     ·exact .inl (.inr ⟨o,by rw[ak ne];exact q⟩)
    ·exact .inr s
   ·exact .inr s0
  exact nt h0.src h.src
end
end Wale
end
section
set_option Elab.async false
set_option linter.all false
set_option maxRecDepth 100000
set_option maxHeartbeats 2000000
namespace Wale
open PySem PySem.Spec PyProof.Rows L2
open Wm
open LsWale (ascii Fault eatSign eatWord eatOpen anyName newName oldName markName holdName wanted isName)
abbrev ah:=LsWale.St
abbrev aC:=LsWale.Env
variable {P:Program}{w:World}{K:PySem.W.Frag}{mg:Str->Option Value}{base:Heap}{a:Ad}
@[irreducible] def gy(K:PySem.W.Frag)(a:Ad)(f:LsWale.Tok->Str):Sp:=zG K a f
@[irreducible] def mV(K:PySem.W.Frag)(a:Ad):Sp:=DA K a
@[irreducible] def vv(K:PySem.W.Frag)(a:Ad):Sp:=BJ K a
@[irreducible] def tH(K:PySem.W.Frag)(a:Ad):Sp:=E8 K a
@[irreducible] def mZ(K:PySem.W.Frag)(a:Ad):Sp:=Bx K a
@[irreducible] def u9(K:PySem.W.Frag)(a:Ad):Sp:=CI K a
@[irreducible] def jC(K:PySem.W.Frag)(a:Ad):Sp:=Ha K a
@[irreducible] def vp(K:PySem.W.Frag)(a:Ad):Sp:=Gg K a
@[irreducible] def nF(K:PySem.W.Frag)(a:Ad):Sp:=Bs K a
theorem hU(T:Tx P w K mg a):ay P w K mg base (bh P w) 7 a.oB a.nY ["self"] (mZ K a):=by unfold mZ;exact lx T
theorem jf(T:Tx P w K mg a):ay P w K mg base (bh P w) 8 a.oV a.mU ["self"] (u9 K a):=by unfold u9;exact vL T
theorem jI(T:Tx P w K mg a):ay P w K mg base (bh P w) 9 a.mJ a.mS ["self","text"] (mV K a):=by unfold mV;exact KP T
theorem ir(T:Tx P w K mg a):ay P w K mg base (bh P w) 9 a.n0 a.my ["self","text"] (gy K a bo):=by unfold gy;exact Ag T
theorem AU(T:Tx P w K mg a):ay P w K mg base (bh P w) 9 a.mq a.nM ["self","kind"] (gy K a fo):=by unfold gy;exact vb T
theorem Ax(T:Tx P w K mg a):ay P w K mg base (bh P w) 10 a.nP a.o3 ["self","text"] (vv K a):=by unfold vv;exact NB T
theorem yA(T:Tx P w K mg a):ay P w K mg base (bh P w) 10 a.oM a.nX ["self","text"] (tH K a):=by unfold tH;exact Og T
theorem tS(T:Tx P w K mg a):ay P w K mg base (bh P w) 10 a.oE a.om ["self","kind"] (jC K a):=by unfold jC;exact NK T
theorem vc(T:Tx P w K mg a):ay P w K mg base (bh P w) 10 a.oZ a.o2 ["self","kind"] (vp K a):=by unfold vp;exact M8 T
theorem uL(T:Tx P w K mg a):ay P w K mg base (bh P w) 10 a.mB a.oJ ["self","kind"] (nF K a):=by unfold nF;exact IL T
def fU:LsWale.Tok->Bytes
 | .word x=>x
 | .sign c=>[c]
 |_=>[]
theorem mX(t:LsWale.Tok):bo t=strOf (fU t):=by
 cases t<;>first|rfl|exact qR.symm
theorem B9{t:LsWale.Tok}{x:Bytes}{c:UInt8}{r:Bytes}(hx:x=c::r)(hc:LsWale.isLetter c=true)(h:wf t=true):fU t=x↔t=.word x:=by
 subst hx
 cases t with
 |word y=>exact⟨fun z=>by rw[show y=_ from z],fun z=>by cases z;rfl⟩
 |sign y=>
  refine⟨fun z=>?_,fun z=>by cases z⟩
  cases z
  exfalso
  have hs:LsWale.SIGNS.contains c=true:=h
  have:∀n:Nat,n<256->LsWale.SIGNS.contains (UInt8.ofNat n)=true->LsWale.isLetter (UInt8.ofNat n)=false:=by decide +kernel
  have:=this c.toNat c.toNat_lt
  rw[UInt8.ofNat_toNat]at this
  rw[this hs]at hc
  cases hc
 |num n=>exact⟨fun z=>(by cases z),fun z=>by cases z⟩
 |bad n=>exact⟨fun z=>(by cases z),fun z=>by cases z⟩
 |done=>exact⟨fun z=>(by cases z),fun z=>by cases z⟩
theorem HQ{t:LsWale.Tok}{c:UInt8}(hc:LsWale.isLetter c=false)(h:wf t=true):fU t=[c]↔t=.sign c:=by
 cases t with
 |word y=>
  refine⟨fun z=>?_,fun z=>by cases z⟩
  have z:y=[c]:=z
  subst z
  exact absurd (show LsWale.isLetter c=true from h) (by rw[hc];decide)
 |sign y=>exact⟨fun z=>by cases z;rfl,fun z=>by cases z;rfl⟩
 |num n=>exact⟨fun z=>(by cases z),fun z=>by cases z⟩
 |bad n=>exact⟨fun z=>(by cases z),fun z=>by cases z⟩
 |done=>exact⟨fun z=>(by cases z),fun z=>by cases z⟩
def iN(x:String):Bool:=match ascii x with
 |c::_=>LsWale.isLetter c
 |[]=>false
theorem kP(b:Bytes)(p:Nat)(e:aC){x:String}(h:iN x=true):fU (ao b p)=ascii x↔(ae b p e).isWord x=true:=by
 rw[mK,decide_eq_true_eq]
 unfold iN at h
 cases q:ascii x with
 |nil=>rw[q]at h;cases h
 |cons c r=>rw[q]at h;exact B9 rfl h (yh b p)
theorem gZ(b:Bytes)(p:Nat)(e:aC){c:Char}(h:LsWale.isLetter (UInt8.ofNat c.toNat)=false):fU (ao b p)=[UInt8.ofNat c.toNat]↔(ae b p e).isSign c=true:=by
 rw[gA,decide_eq_true_eq]
 exact HQ h (yh b p)
theorem eT{t:LsWale.Tok}{z:Str}{y:Bytes}(h:z=strOf y):bo t=z↔fU t=y:=by
 rw[mX,h]
 exact⟨pC,fun q=>by rw[q]⟩
theorem jV{b:Bytes}{p:Nat}{e:aC}{x:String}(h:(ae b p e).isWord x=true):cO (ao b p)=true:=by
 rw[mK,decide_eq_true_eq]at h
 rw[h];rfl
theorem gI{b:Bytes}{p:Nat}{e:aC}{c:Char}(h:(ae b p e).isSign c=true):cO (ao b p)=true:=by
 rw[gA,decide_eq_true_eq]at h
 rw[h];rfl
theorem uv{b:Bytes}{p:Nat}(h:cO (ao b p)=true):cz b p:=fun k z=>by rw[z]at h;cases h
def lst(e:aC):NL
 | .sizes=>e.sizes.getD []
 | .yarns=>e.yarns.getD []
 | .eW=>e.lets
 | .words=>e.words
 | .blocks=>e.blocks
 | .markers=>e.marks
 | .holders=>e.holders
theorem CZ(b:Bytes)(p:Nat)(e:aC):anyName (ae b p e)=match nameAt b p with
  |some x=>.ok (x,ae b (az b p) e)
  |none=>wanted (ae b p e):=by
 unfold anyName nameAt
 rw[d9]
 cases q:ao b p with
 |word x=>
  dsimp only
  by_cases h:isName x=true
  ·rw[if_pos h,if_pos h]
   dsimp only
   rw[cK (by rw[q];rfl)]
  ·rw[if_neg h,if_neg h]
 |_=>rfl
theorem any_some{b:Bytes}{p:Nat}{e:aC}{x:Bytes}(h:nameAt b p=some x):anyName (ae b p e)=.ok (x,ae b (az b p) e):=by rw[CZ,h]
theorem any_none{b:Bytes}{p:Nat}{e:aC}(h:nameAt b p=none):anyName (ae b p e)=wanted (ae b p e):=by rw[CZ,h]
section
variable {α β:Type}{b:Bytes}{R:RA}{p d:Nat}{L:NL}{e:aC}{H:Hp}{Q:VK}{E:XK}{r:Except Fault (α×ah)}
def Tl(K:PySem.W.Frag)(a:Ad)(E:XK)(r:Except Fault (α×ah)):Prop:=∀k pl:Nat,bJ r k pl->Told K a E k pl
theorem Tl.bt(h:Tl K a E r)(hb:∀k pl,HB (ae b p e) k pl->bJ r k pl):gK K a b p E:=fun k hk=>h k _ (hb k _ (Ll hk))
theorem Tl.err{k pl:Nat}(h:Tl K a E r)(hr:r=.error ⟨k,pl⟩):Told K a E k pl:=h k pl (.inl hr)
theorem Tl.want{f:β->Except Fault (α×ah)}(h:Tl K a E r)(nb:cz b p)(hr:r=(wanted (ae b p e):Except Fault β)>>=f):Told K a E 3 (aS b p:Nat):=
 h.err (by rw[hr,fC nb];rfl)
theorem gD{c:Char}{tx:Str}{f:ah->Except Fault (α×ah)}(hR:aq a K b R p d L H)(hT:Tl K a E r)(hr:r=eatSign c (ae b p e)>>=f)(htx:tx=strOf [UInt8.ofNat c.toNat]:=by decide +kernel)
  (hc:LsWale.isLetter (UInt8.ofNat c.toNat)=false:=by decide +kernel)
  (k:r=f (ae b (az b p) e)->∀(H':Hp)(x:Addr),aq a K b R (az b p) d L H'->aH R H H'->c7 a b p H' x->Q (.ref x) H'):gy K a bo [.ref R.r,.str tx] H Q E:=by
 unfold gy
 refine⟨b,R,p,d,L,tx,rfl,hR,hT.bt (e:=e) fun k pl h=>?_,fun nb ht=>?_,fun nb ht=>?_⟩
 ·rw[hr,vM h];exact .inl rfl
 ·have h1:=(gZ b p e hc).mp ((eT htx).mp ht)
  refine k ?_
  rw[hr];unfold eatSign;rw[if_pos h1,cK (gI h1)];rfl
 ·have h1:¬(ae b p e).isSign c=true:=fun z=>ht ((eT htx).mpr ((gZ b p e hc).mpr z))
  refine hT.want (f:=f) (e:=e) nb ?_
  rw[hr];unfold eatSign;rw[if_neg h1]
theorem Ej{c:String}{tx:Str}{f:ah->Except Fault (α×ah)}(hR:aq a K b R p d L H)(hT:Tl K a E r)(hr:r=eatWord c (ae b p e)>>=f)(htx:tx=strOf (ascii c):=by decide +kernel)
  (hc:iN c=true:=by decide +kernel)
  (k:r=f (ae b (az b p) e)->∀(H':Hp)(x:Addr),aq a K b R (az b p) d L H'->aH R H H'->c7 a b p H' x->Q (.ref x) H'):gy K a bo [.ref R.r,.str tx] H Q E:=by
 unfold gy
 refine⟨b,R,p,d,L,tx,rfl,hR,hT.bt (e:=e) fun k pl h=>?_,fun nb ht=>?_,fun nb ht=>?_⟩
 ·rw[hr,BD h];exact .inl rfl
 ·have h1:=(kP b p e hc).mp ((eT htx).mp ht)
  refine k ?_
  rw[hr];unfold eatWord;rw[if_pos h1,cK (jV h1)];rfl
 ·have h1:¬(ae b p e).isWord c=true:=fun z=>ht ((eT htx).mpr ((kP b p e hc).mpr z))
  refine hT.want (f:=f) (e:=e) nb ?_
  rw[hr];unfold eatWord;rw[if_neg h1]
theorem AR{c:Char}{tx:Str}(hR:aq a K b R p d L H)(hT:Tl K a E r)(hb:∀k pl,HB (ae b p e) k pl->bJ r k pl)
  (k1:(ae b p e).isSign c=true->∀H':Hp,aq a K b R (az b p) d L H'->aH R H H'->Q (.bl true) H')
  (k2:(ae b p e).isSign c=false->cz b p->∀H':Hp,aq a K b R p d L H'->aH R H H'->Q (.bl false) H') (htx:tx=strOf [UInt8.ofNat c.toNat]:=by decide +kernel)
  (hc:LsWale.isLetter (UInt8.ofNat c.toNat)=false:=by decide +kernel):mV K a [.ref R.r,.str tx] H Q E:=by
 unfold mV
 exact⟨b,R,p,d,L,tx,rfl,hR,hT.bt hb,fun nb ht=>k1 ((gZ b p e hc).mp ((eT htx).mp ht)),fun nb ht=>k2 (Bool.eq_false_iff.mpr fun z=>ht ((eT htx).mpr ((gZ b p e hc).mpr z))) nb⟩
theorem qG{c:String}{tx:Str}(hR:aq a K b R p d L H)(hT:Tl K a E r)(hb:∀k pl,HB (ae b p e) k pl->bJ r k pl)
  (k1:(ae b p e).isWord c=true->∀H':Hp,aq a K b R (az b p) d L H'->aH R H H'->Q (.bl true) H')
  (k2:(ae b p e).isWord c=false->cz b p->∀H':Hp,aq a K b R p d L H'->aH R H H'->Q (.bl false) H') (htx:tx=strOf (ascii c):=by decide +kernel)
  (hc:iN c=true:=by decide +kernel):mV K a [.ref R.r,.str tx] H Q E:=by
 unfold mV
 exact⟨b,R,p,d,L,tx,rfl,hR,hT.bt hb,fun nb ht=>k1 ((kP b p e hc).mp ((eT htx).mp ht)),fun nb ht=>k2 (Bool.eq_false_iff.mpr fun z=>ht ((eT htx).mpr ((kP b p e hc).mpr z))) nb⟩
theorem ym{c:Char}{tx:Str}{f:ah->Except Fault (α×ah)}(hR:aq a K b R p d L H)(hd:d<=8)(hT:Tl K a E r)(hr:r=eatOpen c d (ae b p e)>>=f)
  (k:r=f (ae b (az b p) e)->d<8->(ae b p e).isSign c=true->∀H':Hp,aq a K b R (az b p) (d+1) L H'->aH R H H'->Q .ax H') (htx:tx=strOf [UInt8.ofNat c.toNat]:=by decide +kernel)
  (hc:LsWale.isLetter (UInt8.ofNat c.toNat)=false:=by decide +kernel):vv K a [.ref R.r,.str tx] H Q E:=by
 unfold vv
 refine⟨b,R,p,d,L,tx,rfl,hR,hT.bt (e:=e) fun k pl h=>?_,fun nb ht=>?_,fun nb ht h8=>?_,fun nb ht h8=>?_⟩
 ·rw[hr,xw h];exact .inl rfl
 ·have h1:¬(ae b p e).isSign c=true:=fun z=>ht ((eT htx).mpr ((gZ b p e hc).mpr z))
  refine hT.want (f:=f) (e:=e) nb ?_
  rw[hr];unfold eatOpen;rw[if_pos (Bool.eq_false_iff.mpr h1)]
 ·have h1:=(gZ b p e hc).mp ((eT htx).mp ht)
  refine hT.err ?_
  rw[hr];unfold eatOpen;rw[if_neg (by rw[h1];decide),if_pos (by rw[h8];decide),jN];rfl
 ·have h1:=(gZ b p e hc).mp ((eT htx).mp ht)
  refine k ?_ (by lia) h1
  rw[hr];unfold eatOpen;rw[if_neg (by rw[h1];decide),if_neg (by show ¬8<=d;lia),cK (gI h1)];rfl
theorem AD{c:Char}{tx:Str}{f:ah->Except Fault (α×ah)}(hR:aq a K b R p (d+1) L H)(hT:Tl K a E r)(hr:r=eatSign c (ae b p e)>>=f)
  (k:r=f (ae b (az b p) e)->∀H':Hp,aq a K b R (az b p) d L H'->aH R H H'->Q .ax H') (htx:tx=strOf [UInt8.ofNat c.toNat]:=by decide +kernel)
  (hc:LsWale.isLetter (UInt8.ofNat c.toNat)=false:=by decide +kernel):tH K a [.ref R.r,.str tx] H Q E:=by
 unfold tH
 refine⟨b,R,p,d,L,tx,rfl,hR,hT.bt (e:=e) fun k pl h=>?_,fun nb ht=>?_,fun nb ht=>?_⟩
 ·rw[hr,vM h];exact .inl rfl
 ·have h1:¬(ae b p e).isSign c=true:=fun z=>ht ((eT htx).mpr ((gZ b p e hc).mpr z))
  refine hT.want (f:=f) (e:=e) nb ?_
  rw[hr];unfold eatSign;rw[if_neg h1]
 ·have h1:=(gZ b p e hc).mp ((eT htx).mp ht)
  refine k ?_
  rw[hr];unfold eatSign;rw[if_pos h1,cK (gI h1)];rfl
theorem me(hR:aq a K b R p d L H)(hT:Tl K a E r)(hb:∀k pl,HB (ae b p e) k pl->bJ r k pl)
  (k:cz b p->∀(H':Hp)(x:Addr),aq a K b R p d L H'->aH R H H'->c7 a b p H' x->Q (.ref x) H'):mZ K a [.ref R.r] H Q E:=by
 unfold mZ
 exact⟨b,R,p,d,L,rfl,hR,hT.bt hb,k⟩
theorem iK(hR:aq a K b R p d L H)(nb:cz b p)(k:∀(H':Hp)(x:Addr),aq a K b R (az b p) d L H'->aH R H H'->c7 a b p H' x->Q (.ref x) H'):u9 K a [.ref R.r] H Q E:=by
 unfold u9
 exact⟨b,R,p,d,L,rfl,hR,fun k hk=>absurd hk (nb k),fun _=>k⟩
theorem sQ{k:Kd}{f:Bytes×ah->Except Fault (α×ah)}{m most:Nat}{also:List Bytes}(hR:aq a K b R p d L H)(hT:Tl K a E r)(hr:r=newName m most (ae b p e) also>>=f)(hm:m=(L k).length)(hmost:most=bF k)
  (hu:∀x,(e.told x=true\/also.contains x=true)↔¬dF L x)
  (kk:∀x,nameAt b p=some x->dF L x->(L k).length≠bF k->r=f (x,ae b (az b p) e)->∀(H':Hp)(y:Addr),aq a K b R (az b p) d L H'->aH R H H'->c7 a b p H' y->Q (.ref y) H'):jC K a [.ref R.r,.str (a7 k)] H Q E:=by
 subst hm hmost
 unfold jC
 refine⟨b,R,p,d,L,k,rfl,hR,hT.bt (e:=e) fun k pl h=>?_,fun nb hn=>?_,fun x hx=>?_⟩
 ·rw[hr,Lp h];exact .inl rfl
 ·refine hT.err ?_
  rw[hr];unfold newName;rw[any_none hn,fC nb];rfl
 have h0:r=(newName (L k).length (bF k) (ae b p e) also>>=f):=hr
 have bd:=hR.nm.bd k
 refine⟨fun hn=>hT.err ?_,fun hn hl=>hT.err ?_,fun hn hl=>kk x hx hn hl ?_⟩
 ·rw[h0];unfold newName;rw[any_some hx]
  show((if e.told x=true\/also.contains x=true then _ else _)>>=f)=_
  rw[if_pos ((hu x).mpr hn),jN];rfl
 ·rw[h0];unfold newName;rw[any_some hx]
  show((if e.told x=true\/also.contains x=true then _ else _)>>=f)=_
  rw[if_neg (fun z=>(hu x).mp z hn)]
  show((if bF k<=(L k).length then _ else _)>>=f)=_
  rw[if_pos (by lia),jN];rfl
 ·rw[h0];unfold newName;rw[any_some hx]
  show((if e.told x=true\/also.contains x=true then _ else _)>>=f)=_
  rw[if_neg (fun z=>(hu x).mp z hn)]
  show((if bF k<=(L k).length then _ else _)>>=f)=_
  rw[if_neg (by lia)];rfl
theorem uE{k:Kd}{f:Bytes×ah->Except Fault (α×ah)}{l:List Bytes}(hR:aq a K b R p d L H)(hk:df k=true)(hT:Tl K a E r)(hr:r=oldName l (ae b p e)>>=f)(hl:l=L k)
  (kk:∀x,r=f (x,ae b (az b p) e)->∀H':Hp,aq a K b R (az b p) d L H'->aH R H H'->Q (.str (strOf x)) H'):vp K a [.ref R.r,.str (a7 k)] H Q E:=by
 subst hl
 unfold vp
 refine⟨b,R,p,d,L,k,rfl,hR,hk,hT.bt (e:=e) fun k pl h=>?_,fun nb hn=>?_,fun x hx=>⟨fun hm=>hT.err ?_,fun hm=>kk x ?_⟩⟩
 ·rw[hr,Hj h];exact .inl rfl
 ·refine hT.err ?_
  rw[hr];unfold oldName;rw[any_none hn,fC nb];rfl
 ·rw[hr];unfold oldName;rw[any_some hx]
  show((if(L k).contains x=false then _ else _)>>=f)=_
  rw[if_pos (by rw[Bool.eq_false_iff];exact fun z=>hm (by simpa using z)),jN];rfl
 ·rw[hr];unfold oldName;rw[any_some hx]
  show((if(L k).contains x=false then _ else _)>>=f)=_
  rw[if_neg (by rw[show(L k).contains x=true by simpa using hm];decide)];rfl
def sx(e:aC)(x:Bytes):aC:=if e.marks.contains x=true then e else{e with marks:=e.marks++[x]}
def pN(e:aC)(x:Bytes):aC:=if e.holders.contains x=true then e else{e with holders:=e.holders++[x]}
theorem HR(e:aC)(x:Bytes):jx (lst e) .markers x=lst (sx e x):=by
 unfold jx sx
 by_cases h:x∈e.marks
 ·rw[if_pos (show x∈lst e .markers from h),if_pos (by simpa using h)]
 ·rw[if_neg (show x∉lst e .markers from h),if_neg (by simpa using h)]
  funext j
  cases j<;>rfl
theorem Lu(e:aC)(x:Bytes):jx (lst e) .holders x=lst (pN e x):=by
 unfold jx pN
 by_cases h:x∈e.holders
 ·rw[if_pos (show x∈lst e .holders from h),if_pos (by simpa using h)]
 ·rw[if_neg (show x∉lst e .holders from h),if_neg (by simpa using h)]
  funext j
  cases j<;>rfl
theorem uV{f:Bytes×ah->Except Fault (α×ah)}(hR:aq a K b R p d (lst e) H)(hT:Tl K a E r)(hr:r=markName (ae b p e)>>=f)
  (kk:∀x,r=f (x,ae b (az b p) (sx e x))->∀H':Hp,aq a K b R (az b p) d (lst (sx e x)) H'->aH R H H'->Q (.str (strOf x)) H'):nF K a [.ref R.r,.str "markers"] H Q E:=by
 unfold nF
 refine⟨b,R,p,d,lst e,.markers,rfl,hR,rfl,hT.bt (e:=e) fun k pl h=>?_,fun nb hn=>?_,fun x hx=>⟨fun hm hl=>hT.err ?_,fun hc H' hR' kp=>kk x ?_ H' (by rw[<-HR];exact hR') kp⟩⟩
 ·rw[hr,JN h];exact .inl rfl
 ·refine hT.err ?_
  rw[hr];unfold markName;rw[any_none hn,fC nb];rfl
 ·rw[hr];unfold markName;rw[any_some hx]
  show((if e.marks.contains x=true then _ else _)>>=f)=_
  have hm':x∉e.marks:=hm
  have hl':LsWale.MARKS<=e.marks.length:=Nat.le_of_eq (Eq.symm hl)
  rw[if_neg (by simpa using hm')]
  show((if LsWale.MARKS<=e.marks.length then _ else _)>>=f)=_
  rw[if_pos hl',jN];rfl
 ·rw[hr];unfold markName;rw[any_some hx]
  show((if e.marks.contains x=true then _ else _)>>=f)=_
  unfold sx
  by_cases h:e.marks.contains x=true
  ·rw[if_pos h,if_pos h];rfl
  ·rw[if_neg h,if_neg h]
   show((if LsWale.MARKS<=e.marks.length then _ else _)>>=f)=_
   have h0:x∉e.marks:=by simpa using h
   have h1:e.marks.length≠64:=hc.resolve_left h0
   have h2:e.marks.length<=64:=hR.nm.bd .markers
   rw[if_neg (by show ¬64<=_;lia)];rfl
theorem Gq{f:Bytes×ah->Except Fault (α×ah)}(hR:aq a K b R p d (lst e) H)(hT:Tl K a E r)(hr:r=holdName (ae b p e)>>=f)
  (kk:∀x,r=f (x,ae b (az b p) (pN e x))->∀H':Hp,aq a K b R (az b p) d (lst (pN e x)) H'->aH R H H'->Q (.str (strOf x)) H'):nF K a [.ref R.r,.str "holders"] H Q E:=by
 unfold nF
 refine⟨b,R,p,d,lst e,.holders,rfl,hR,rfl,hT.bt (e:=e) fun k pl h=>?_,fun nb hn=>?_,fun x hx=>⟨fun hm hl=>hT.err ?_,fun hc H' hR' kp=>kk x ?_ H' (by rw[<-Lu];exact hR') kp⟩⟩
 ·rw[hr,Ql h];exact .inl rfl
 ·refine hT.err ?_
  rw[hr];unfold holdName;rw[any_none hn,fC nb];rfl
 ·rw[hr];unfold holdName;rw[any_some hx]
  show((if e.holders.contains x=true then _ else _)>>=f)=_
  have hm':x∉e.holders:=hm
  have hl':LsWale.HOLDERS<=e.holders.length:=Nat.le_of_eq (Eq.symm hl)
  rw[if_neg (by simpa using hm')]
  show((if LsWale.HOLDERS<=e.holders.length then _ else _)>>=f)=_
  rw[if_pos hl',jN];rfl
 ·rw[hr];unfold holdName;rw[any_some hx]
  show((if e.holders.contains x=true then _ else _)>>=f)=_
  unfold pN
  by_cases h:e.holders.contains x=true
  ·rw[if_pos h,if_pos h];rfl
  ·rw[if_neg h,if_neg h]
   show((if LsWale.HOLDERS<=e.holders.length then _ else _)>>=f)=_
   have h0:x∉e.holders:=by simpa using h
   have h1:e.holders.length≠16:=hc.resolve_left h0
   have h2:e.holders.length<=16:=hR.nm.bd .holders
   rw[if_neg (by show ¬16<=_;lia)];rfl
end
end Wale
end
section
set_option Elab.async false
set_option linter.all false
set_option maxRecDepth 100000
set_option maxHeartbeats 2000000
namespace Wale
open PySem PySem.Spec PyProof.Rows L2
open Wm
variable {P:Program}{w:World}{K:PySem.W.Frag}{mg:Str->Option Value}{base:Heap}{a:Ad}
structure dB(H0 H H':Hp)(l:Addr):Prop where
 keep:∀b o,H b=some o->b≠l->H' b=some o
 new:H0 l=none
 lst:(∃vs,H l=some (.lst vs))\/H l=none
 grow:cp H H'
section
variable {b:Bytes}{R:RA}{p d p0 d0:Nat}{L L0:NL}{H0 H H' H1:Hp}{l:Addr}
theorem aH.bO(k:aH R H0 H)(c:dB H0 H H' l):aH R H0 H':=fun b o e n1 n2 n3 n4=>c.keep b o (k b o e n1 n2 n3 n4) (fun z=>by rw[z,c.new]at e;cases e)
theorem aq.bO(h:aq a K b R p d L H)(h0:aq a K b R p0 d0 L0 H0)(c:dB H0 H H' l):aq a K b R p d L H':=by
 obtain⟨dx,v,er,hv⟩:=h.obj
 obtain⟨k1,e1,t1⟩:=h.nm.fZ
 obtain⟨k2,e2,t2⟩:=h.nm.ib
 obtain⟨k3,e3,t3⟩:=h.nm.gj
 obtain⟨dn,en⟩:=h.nm.obj
 have nn:∀{q:Addr}{o:HO},H q=some o->(∀ws,o≠ .lst ws)->H' q=some o:=fun{q o}eq no=>c.keep q o eq fun z=>by
  rcases c.lst with ⟨vs,e⟩|e
  ·rw[z,e]at eq;cases eq;exact no _ rfl
  ·rw[z,e]at eq;cases eq
 refine⟨⟨dx,v,nn er (fun _ z=>nomatch z),?_⟩,?_,⟨⟨dn,nn en (fun _ z=>nomatch z)⟩,⟨k1,nn e1 (fun _ z=>nomatch z),t1⟩,⟨k2,nn e2 (fun _ z=>nomatch z),t2⟩,⟨k3,nn e3 (fun _ z=>nomatch z),t3⟩,h.nm.ne,h.nm.bd⟩,h.len,h.pl⟩
 ·rcases hv with hv|⟨x,ev,nb,dt,ft,et,rest⟩
  ·exact .inl hv
  ·exact .inr ⟨x,ev,nb,dt,ft,nn et (fun _ z=>nomatch z),rest⟩
 ·rcases h0.src with s0|s0
  ·have ne:R.t≠l:=fun z=>by
    rcases s0 with q|⟨o,q⟩
    ·rw[z,c.new]at q;cases q
    ·rw[z,c.new]at q;cases q
   rcases h.src with s|s
   ·rcases s with q|⟨o,q⟩
    ·exact .inl (.inl (c.keep _ _ q ne))
    ·exact .inl (.inr ⟨o,c.keep _ _ q ne⟩)
   ·exact .inr s
  ·exact .inr s0
end
def Dt(K:PySem.W.Frag):List V->Hp->VK->Prop:=fun xs H Q=>∃(x:V)(C:Addr)(t:Value)(b:Bool),xs=[x,.ref C]/\dZ K H x t/\PySem.W.kitOne K t (.ref C)=some b/\Q (.bl b) H
theorem ID{X:Cx}:jH X (.builtin "isinstance") (Dt X.K):=by
 intro pins s σ H xs us Q I r h
 obtain⟨x,C,t,b,rfl,ty,e,q⟩:=h
 cases r with
 |cons r1 r2=>
  cases r2 with
  |cons r3 r4=>
   cases r4
   cases (show _=Value.ref C from r3)
   exact JO I r1 ty e fun tk=>⟨.bl b,H,I.tok _,rfl,q⟩
theorem kN(T:Tx P w K mg a){H:Hp}{x C dx f:Addr}{fs:List (Str×V)}{n:Str}(e:H x=some (.ins C dx fs))(co:OwnCls K mg n C f)(io:js K C):dZ K H (.ref x) (.ref C):=
 .ins e co.cl io.ha T.LF T.HC io.hm
theorem qb{X:Cx}{e:Expr}{te:TE}{C f:Addr}{n:Str}{p1 p2 pos:Pos}(hb:X.mg "isinstance"=none)(co:OwnCls X.K X.mg n C f)(he:PE X e te)(hg:Gl X "isinstance":=by rfl)(hg2:Gl X n:=by rfl)(hd:(n==("__debug__":Str))=false:=by decide)
  (s1:starEach [e,.Name n p2] X.env=[(false,eval e X.env),(false,eval (.Name n p2) X.env)]:=by rfl) (s2:starEach [.Name n p2] X.env=[(false,eval (.Name n p2) X.env)]:=by rfl):
  PE X (.Call (.Name "isinstance" p1) [e,.Name n p2] [] pos) (rZ (Dt X.K) (bV te (bV (tC (.ref C)) eC))):=
 jo ID hg hb rfl (aa he (aa (rD hg2 co.at_ (show RelV (.ref C) (.ref C)from rfl) hd) ag s2) (by rw[s1,s2])) (by decide) (by decide) (by rw[s1,s2]) (by rw[s2];rfl)
abbrev a0:=LsWale.Sum
def dJ(c:UInt8):Nat:=if c=43\/c=45 then 1 else 2
def cW:a0->Nat
 | .op c _ _ _=>dJ c
 |_=>0
def dq:a0->Nat
 | .op _ _ x y=>dq x+dq y+1
 |_=>0
theorem yT(c:UInt8):dJ c=1\/dJ c=2:=by
 unfold dJ
 split
 ·exact .inl rfl
 ·exact .inr rfl
inductive g0(f:a0):List (UInt8×a0)->a0->Prop where
 |nil:g0 f [] f
 |snoc {l:List (UInt8×a0)} {y z:a0} {c:UInt8} {p:Nat}:g0 f l y->g0 f (l++[(c,z)]) (.op c p y z)
theorem g0.len{f x:a0}{l:List (UInt8×a0)}(h:g0 f l x):l.length<=dq x:=by
 induction h with
 |nil=>exact Nat.zero_le _
 |snoc _ ih=>
  rw[List.length_append]
  show _+1<=_+_+1
  lia
theorem g0.lv{f x:a0}{l:List (UInt8×a0)}{n:Nat}(h:g0 f l x)(hl:∀pr∈l,dJ pr.1=n)(hn:l≠[]):cW x=n:=by
 cases h with
 |nil=>exact absurd rfl hn
 |snoc _=>exact hl _ (List.mem_append_right _ (List.mem_cons_self ..))
def u6:Rep a0:=fun _ _ v x=>cW x=0/\v=.str (strOf (LsWale.sumText x))
def tQ(r:Rep a0):Rep (UInt8×a0):=fun H F v x=>∃(t:Addr)(xv:V),v=.ref t/\F t/\H t=some (.tup [.str (strOf [x.1]),xv])/\r H F xv x.2
def xq(l:Nat)(fv:V)(pl:Addr):List (Str×V):=[("level",.int (l:Int)),("first",fv),("pairs",.ref pl)]
structure JU(a:Ad)(r:Rep a0)(H:Hp)(F:Fp)(x:a0)(c dx pl:Addr)(fv:V)(f:a0)(F':Fp)(vs:List V)(prs:List (UInt8×a0))(l:Nat):Prop where
 fc:F c
 fp:F pl
 np:¬F' pl
 sub:∀b,F' b->F b
 obj:H c=some (.ins a.cn dx (xq l fv pl))
 lst:H pl=some (.lst vs)
 fst:r H F' fv f
 ra:cW f≠l
 all:dG (tQ r H F') vs prs
 ne:prs≠[]
 gz:l=1\/l=2
 ju:∀pr∈prs,dJ pr.1=l
 blt:g0 f prs x
def yN(a:Ad)(r:Rep a0):Rep a0:=fun H F v x=>∃c dx pl fv f F' vs prs l,v=.ref c/\JU a r H F x c dx pl fv f F' vs prs l
def b7(a:Ad):Nat->Rep a0
 |0=>u6
 |n+1=>fun H F v x=>u6 H F v x\/yN a (b7 a n) H F v x
theorem AS:Good u6:=⟨fun h _=>h,fun h _=>h⟩
theorem yR{r:Rep a0}(G:Good r):Good (tQ r) where
 frame:=by
  rintro H H' F v x ⟨t,xv,rfl,h1,h2,h3⟩ e
  exact⟨t,xv,rfl,h1,by rw[e t h1];exact h2,G.frame h3 e⟩
 mono:=by
  rintro H F F' v x ⟨t,xv,rfl,h1,h2,h3⟩ m
  exact⟨t,xv,rfl,m t h1,h2,G.mono h3 m⟩
theorem Cj{r:Rep a0}(G:Good r):Good (yN a r) where
 frame:=by
  rintro H H' F v x ⟨c,dx,pl,fv,f,F',vs,prs,l,rfl,h⟩ e
  have e':∀b,F' b->H' b=H b:=fun b hb=>e b (h.sub b hb)
  exact⟨c,dx,pl,fv,f,F',vs,prs,l,rfl,h.fc,h.fp,h.np,h.sub,by rw[e _ h.fc];exact h.obj,by rw[e _ h.fp];exact h.lst,G.frame h.fst e',h.ra,h.all.imp fun _ _ q=>(yR G).frame q e',h.ne,h.gz,h.ju,h.blt⟩
 mono:=by
  rintro H F F2 v x ⟨c,dx,pl,fv,f,F',vs,prs,l,rfl,h⟩ m
  exact⟨c,dx,pl,fv,f,F',vs,prs,l,rfl,m _ h.fc,m _ h.fp,h.np,fun b hb=>m b (h.sub b hb),h.obj,h.lst,h.fst,h.ra,h.all,h.ne,h.gz,h.ju,h.blt⟩
theorem dE(a:Ad):∀n,Good (b7 a n)
 |0=>AS
 |n+1=>⟨fun h e=>h.elim (fun z=>.inl (AS.frame z e)) fun z=>.inr ((Cj (dE a n)).frame z e),fun h m=>h.elim (fun z=>.inl (AS.mono z m)) fun z=>.inr ((Cj (dE a n)).mono z m)⟩
theorem Kn{r r':Rep a0}{H:Hp}{F:Fp}(h:∀v x,r H F v x->r' H F v x){v:V}{x:UInt8×a0}(q:tQ r H F v x):tQ r' H F v x:=by
 obtain⟨t,xv,e,h1,h2,h3⟩:=q
 exact⟨t,xv,e,h1,h2,h _ _ h3⟩
theorem qi(a:Ad):∀(n:Nat){H:Hp}{F:Fp}{v:V}{x:a0},b7 a n H F v x->b7 a (n+1) H F v x
 |0,_,_,_,_,h=>.inl h
 |n+1,_,_,_,_,h=>h.elim .inl fun⟨c,dx,pl,fv,f,F',vs,prs,l,e,q⟩=>
  .inr ⟨c,dx,pl,fv,f,F',vs,prs,l,e,q.fc,q.fp,q.np,q.sub,q.obj,q.lst,qi a n q.fst,q.ra,q.all.imp fun _ _ z=>Kn (fun _ _ y=>qi a n y) z,q.ne,q.gz,q.ju,q.blt⟩
theorem Jr(a:Ad){m n:Nat}(h:m<=n){H:Hp}{F:Fp}{v:V}{x:a0}(q:b7 a m H F v x):b7 a n H F v x:=by
 induction h with
 |refl=>exact q
 |step _ ih=>exact qi a _ ih
theorem BN(a:Ad)(n:Nat){H:Hp}{F:Fp}{v:V}{x:a0}(h:u6 H F v x):b7 a n H F v x:=Jr a (Nat.zero_le n) h
theorem pZ{n:Nat}{H:Hp}{F:Fp}{v:V}{x:a0}(h:b7 a n H F v x):(cW x=0/\v=.str (strOf (LsWale.sumText x)))\/∃m,n=m+1/\yN a (b7 a m) H F v x:=by
 cases n with
 |zero=>exact .inl h
 |succ m=>exact h.elim .inl fun z=>.inr ⟨m,rfl,z⟩
def KO(a:Ad):Sp:=fun vs H Q _=>∃(v:V)(l n:Nat)(F:Fp)(x:a0),vs=[v,.int (l:Int)]/\l≠0/\b7 a n H F v x/\Q (.bl (decide (cW x=l))) H
theorem Ol:aI ["node","level"] ["node","level"] (aB y8):=⟨rfl,rfl,rfl,by decide +kernel,rfl,by decide +kernel,by decide +kernel⟩
theorem OQ(T:Tx P w K mg a):ay P w K mg base aW 1 a.qz a.qr ["node","level"] (KO a):=by
 refine T.Eb.fn.ok Ol (fun vs H Q E h=>?_) (fun cdv A outer s H vs Q E hr h=>?_)
 ·obtain⟨_,_,_,_,_,rfl,_⟩:=h;rfl
 obtain⟨v,l,n,F,x,rfl,hl,hs,q⟩:=h
 refine⟨_,aj (aN (Di (qb T.pD T.d8 (pv 0)) (vh (jy cq (aD (pv 0) rfl) (pv 1) (a4 _))))),?_⟩
 rcases pZ hs with ⟨h0,rfl⟩|⟨m,rfl,c,dx,pl,fv,f,F',vs,prs,l',rfl,h⟩
 ·refine(gS rfl (.str _) T.zy ?_)
  rw[h0,decide_eq_false (fun z=>hl z.symm)]at q
  exact cw q
 ·refine(gS rfl (kN T h.obj T.d8 T.uh) T.x4 ?_)
  refine bK (rF rfl h.obj T.d8.cl T.uH rfl (eX _ rfl ⟨rfl,?_⟩))
  rw[fS]
  rw[h.blt.lv h.ju h.ne]at q
  rw[show decide ((l':Int)=(l:Int))=decide (l'=l)from decide_eq_decide.mpr (by lia)]
  exact q
end Wale
end
section
set_option Elab.async false
set_option linter.all false
set_option maxRecDepth 100000
set_option maxHeartbeats 2000000
namespace Wale
open PySem PySem.Spec PyProof.Rows L2
open Wm
variable {P:Program}{w:World}{K:PySem.W.Frag}{mg:Str->Option Value}{base:Heap}{a:Ad}
def Kj(a:Ad):Sp:=fun vs H Q _=>∃(x dx:Addr)(l:Nat)(fv:V),vs=[.ref x,.int (l:Int),fv]/\H x=some (.ins a.cn dx [])/\
 ∀(H':Hp)(pl:Addr),H pl=none->H' x=some (.ins a.cn dx (xq l fv pl))->H' pl=some (.lst [])->(∀b o,H b=some o->b≠x->H' b=some o)->Q .ax H'
theorem Nc:aI ["self","level","first"] ["self","level","first"] (aB yO):=⟨rfl,rfl,rfl,by decide +kernel,rfl,by decide +kernel,by decide +kernel⟩
theorem Iw(T:Tx P w K mg a):ay P w K mg base aW 1 a.kY a.nv ["self","level","first"] (Kj a):=by
 refine T.Cp.1.ok Nc (fun vs H Q E h=>?_) (fun cdv A outer s H vs Q E hr h=>?_)
 ·obtain⟨_,_,_,_,rfl,_⟩:=h;rfl
 obtain⟨x,dx,l,fv,rfl,hx,q⟩:=h
 refine⟨_,ai (c6 (pv 0) (pv 1) rfl) (ai (c6 (pv 0) (pv 2) rfl) (aj (c6 (pv 0) (bH ag) rfl))),?_⟩
 have C:=T.d8.cl
 refine(eX _ rfl (eX _ rfl ⟨x,_,dx,eX _ rfl ⟨hx,C,T.uH,(by show 0<1000;decide),?_⟩⟩))
 refine(eX _ rfl (eX _ rfl ⟨x,_,dx,eX _ rfl ⟨aw,C,T.Fk,(by show 1<1000;decide),?_⟩⟩))
 refine⟨(by show 0<=sizeLine;decide),fun pl hp=>?_⟩
 have nx:x≠pl:=fun z=>by rw[<-z,aw]at hp;cases hp
 have hp0:H pl=none:=by rw[ak (fun z=>nx z.symm),ak (fun z=>nx z.symm)]at hp;exact hp
 refine(eX _ rfl ⟨x,_,dx,eX _ rfl ⟨by rw[ak nx];exact aw,C,T.uK,(by show 2<1000;decide),?_⟩⟩)
 refine q _ pl hp0 aw ?_ fun b o e hb=>?_
 ·rw[ak (fun z=>nx z.symm)];exact aw
 ·rw[ak hb,ak (fun z=>by rw[z,hp0]at e;cases e),ak hb,ak hb];exact e
def Dd(a:Ad)(n:Nat):Sp:=fun vs H Q _=>∃(l:Nat)(c:UInt8)(lv rv:V)(xl xr:a0)(H0:Hp)(FL FR:Fp)(p:Nat),vs=[.int (l:Int),lv,.str (strOf [c]),rv]/\dJ c=l/\
 ((cW xl=l/\b7 a (n+1) H FL lv xl)\/(cW xl≠l/\b7 a n H FL lv xl))/\b7 a n H FR rv xr/\b9 H0 H FL/\b9 H0 H FR/\(∀b,FL b->¬FR b)/\cp H0 H/\dq xl<sizeLine/\
 ∀(H':Hp)(v:V)(q:Addr),dB H0 H H' q->Md (b7 a (n+1)) H0 H' v (.op c p xl xr)->Q v H'
theorem Eh:aI ["level","left","sign","right","chain"] ["level","left","sign","right"] (aB Ah):=⟨rfl,rfl,rfl,by decide +kernel,rfl,by decide +kernel,by decide +kernel⟩
theorem Cy(T:Tx P w K mg a)(n:Nat):ay P w K mg base aW 3 a.rK a.r9 ["level","left","sign","right"] (Dd a n):=by
 refine aE.ok (k:=2) T.Al.fn Eh (fun vs H Q E h=>?_) (fun cdv A outer s H vs Q E hr h=>?_)
 ·obtain⟨_,_,_,_,_,_,_,_,_,_,rfl,_⟩:=h;rfl
 obtain⟨l,c,lv,rv,xl,xr,H0,FL,FR,p,rfl,hc,hL,hR,sL,sR,dj,gr,hz,q⟩:=h
 have gz:=yT c
 rw[hc]at gz
 have l0:l≠0:=by lia
 refine⟨_,ai (aY (i:=4) Eh.nd rfl (Or.inl rfl) (Fg (cX (aQ T.Eb (OQ T) (hr.mono (by decide)) aU (aa (pv 1) (aa (pv 0) ag))))
   (pv 1) (eP T.d8.eJ (Iw T) hr rfl T.d8.at_ T.Cp.2 .nil aU (aa (pv 0) (aa (pv 1) ag)))))
  (ai (a3 (dv PySem.F.plainAttrs_list PySem.F.slot_list_append PySem.F.type_list_append eB (aD (pv 4) rfl) (aa (kO (aa (pv 2) (aa (pv 3) ag))) ag)))
  (aj (aN (pv 4)))),?_⟩
 have aL:∀b,FL b->H b≠none:=fun b hb=>by obtain⟨_,o,e⟩:=sL b hb;rw[e];exact fun z=>nomatch z
 have aR:∀b,FR b->H b≠none:=fun b hb=>by obtain⟨_,o,e⟩:=sR b hb;rw[e];exact fun z=>nomatch z
 rcases hL with ⟨hlv,hL⟩|⟨hlv,hL⟩
 ·refine(eX _ rfl (eX _ rfl ⟨lv,l,n+1,FL,xl,rfl,l0,hL,eX _ rfl ?_⟩))
  rw[decide_eq_true hlv]
  refine bK (eX _ rfl ?_)
  rcases pZ hL with ⟨h0,-⟩|⟨m,em,co,dx,pl,fv,f,F',vs,prs,l',rfl,h⟩
  ·exact absurd (h0.symm.trans hlv) (fun z=>l0 z.symm)
  cases em
  have el:l'=l:=(h.blt.lv h.ju h.ne).symm.trans hlv
  subst el
  refine(rF rfl h.obj T.d8.cl T.uK rfl ⟨.inl ⟨rfl,_,aF.of h.lst⟩,eX _ rfl (eX _ rfl ⟨(by show 2<=sizeLine;decide),fun t ht=>?_⟩)⟩)
  have npt:pl≠t:=fun z=>by rw[<-z,h.lst]at ht;cases ht
  have nco:co≠pl:=bQ h.obj h.lst (fun z=>nomatch z)
  have nct:co≠t:=fun z=>by rw[<-z,h.obj]at ht;cases ht
  refine⟨pl,vs,.ref t,rfl,rfl,by rw[ak npt];exact h.lst,by have:=h.blt.len;have:=h.all.len;lia,?_⟩
  have eqF:∀b,FL b->b≠pl->upd (upd H t (.tup [.str (strOf [c]),rv])) pl (.lst (vs++[.ref t])) b=H b:=fun b hb hn=>by
   rw[ak hn,ak (fun z=>aL b hb (by rw[z];exact ht))]
  have eqR:∀b,FR b->upd (upd H t (.tup [.str (strOf [c]),rv])) pl (.lst (vs++[.ref t])) b=H b:=fun b hb=>by
   rw[ak (fun z=>dj pl h.fp (by rw[<-z];exact hb)),ak (fun z=>aR b hb (by rw[z];exact ht))]
  refine(eX _ rfl (q _ _ pl ⟨fun b o e hb=>?_,(sL _ h.fp).1,.inl ⟨vs,h.lst⟩,sh.trans sh⟩ ⟨fun b=>FL b\/FR b\/b=t,.inr ⟨co,dx,pl,fv,f,fun b=>F' b\/FR b\/b=t,vs++[.ref t],prs++[(c,xr)],l',rfl,?_⟩,?_⟩))
  ·rw[ak hb,ak (fun z=>by rw[z,ht]at e;cases e)];exact e
  ·refine⟨.inl h.fc,.inl h.fp,fun z=>z.elim h.np fun z=>z.elim (dj _ h.fp) npt,fun b hb=>hb.elim (fun z=>.inl (h.sub b z)) .inr,?_,aw,?_,h.ra,?_,by simp,h.gz,?_,h.blt.snoc⟩
   ·rw[ak nco,ak nct];exact h.obj
   ·exact(dE a n).mono ((dE a n).frame h.fst fun b hb=>eqF b (h.sub b hb) fun z=>h.np (by rw[<-z];exact hb)) fun b hb=>.inl hb
   ·refine dG.app (h.all.imp fun _ _ z=>?_) (.cons ⟨t,rv,rfl,.inr (.inr rfl),?_,?_⟩ .nil)
    ·exact(yR (dE a n)).mono ((yR (dE a n)).frame z fun b hb=>eqF b (h.sub b hb) fun z=>h.np (by rw[<-z];exact hb)) fun b hb=>.inl hb
    ·rw[ak (fun z=>npt z.symm)];exact aw
    ·exact(dE a n).mono ((dE a n).frame hR eqR) fun b hb=>.inr (.inl hb)
   ·intro pr hp
    rcases List.mem_append.mp hp with z|z
    ·exact h.ju pr z
    ·rw[List.mem_singleton.mp z];exact hc
  ·intro b hb
   rcases hb with hb|hb|rfl
   ·exact sL.put.put b hb
   ·exact sR.put.put b hb
   ·refine⟨gr.none ht,?_⟩
    rw[ak (fun z=>npt z.symm),aw];exact⟨_,rfl⟩
 ·refine(eX _ rfl (eX _ rfl ⟨lv,l,n,FL,xl,rfl,l0,hL,eX _ rfl ?_⟩))
  rw[decide_eq_false hlv]
  refine cw (eX _ rfl (eX _ rfl (fun x dx nx nd ne=>?_)))
  refine⟨x,dx,l,lv,rfl,aw,fun H1 pl hp ex ep kp=>⟨rfl,?_⟩⟩
  have sm:aK H H1:=aK.made nx nd kp
  have hp0:H pl=none:=by
   cases e:H pl with
   |none=>rfl
   |some o=>
    have n1:pl≠x:=fun z=>by rw[z,nx]at e;cases e
    have n2:pl≠dx:=fun z=>by rw[z,nd]at e;cases e
    rw[ak n1,ak n2,e]at hp;cases hp
  refine(rF rfl ex T.d8.cl T.uK rfl ⟨.inl ⟨rfl,_,aF.of ep⟩,eX _ rfl (eX _ rfl ⟨(by show 2<=sizeLine;decide),fun t ht=>?_⟩)⟩)
  have npt:pl≠t:=fun z=>by rw[<-z,ep]at ht;cases ht
  have nxp:x≠pl:=bQ ex ep (fun z=>nomatch z)
  have nxt:x≠t:=fun z=>by rw[<-z,ex]at ht;cases ht
  refine⟨pl,[],.ref t,rfl,rfl,by rw[ak npt];exact ep,by show 0<sizeLine;decide,?_⟩
  have ht0:H t=none:=by
   cases e:H t with
   |none=>rfl
   |some o=>rw[sm _ _ e]at ht;cases ht
  have keep:∀b o,H b=some o->upd (upd H1 t (.tup [.str (strOf [c]),rv])) pl (.lst ([]++[.ref t])) b=some o:=fun b o e=>by
   rw[ak (fun z=>by rw[z,hp0]at e;cases e),ak (fun z=>by rw[z,ht0]at e;cases e)];exact sm b o e
  have sm':aK H (upd (upd H1 t (.tup [.str (strOf [c]),rv])) pl (.lst ([]++[.ref t]))):=keep
  refine(eX _ rfl (q _ _ pl ⟨fun b o e _=>keep b o e,gr.none hp0,.inr hp0,DK sm'⟩ ⟨fun b=>b=x\/b=pl\/FL b\/FR b\/b=t,.inr ⟨x,dx,pl,lv,xl,fun b=>FL b\/FR b\/b=t,[]++[.ref t],[]++[(c,xr)],l,rfl,?_⟩,?_⟩))
  ·refine⟨.inl rfl,.inr (.inl rfl),fun z=>?_,fun b hb=>.inr (.inr hb),?_,aw,?_,hlv,?_,by simp,gz,?_,g0.nil.snoc⟩
   ·rcases z with z|z|z
    ·exact aL _ z hp0
    ·exact aR _ z hp0
    ·exact npt z
   ·rw[ak nxp,ak nxt];exact ex
   ·exact(dE a n).mono ((dE a n).frame hL (sL.vK sm')) fun b hb=>.inl hb
   ·refine .cons ⟨t,rv,rfl,.inr (.inr rfl),?_,?_⟩ .nil
    ·rw[ak (fun z=>npt z.symm)];exact aw
    ·exact(dE a n).mono ((dE a n).frame hR (sR.vK sm')) fun b hb=>.inr (.inl hb)
   ·intro pr hp
    rw[List.mem_singleton.mp hp];exact hc
  ·intro b hb
   rcases hb with rfl|rfl|hb|hb|rfl
   ·refine⟨gr.none nx,?_⟩
    rw[ak nxp,ak nxt];exact⟨_,ex⟩
   ·exact⟨gr.none hp0,_,aw⟩
   ·exact sL.same sm' b hb
   ·exact sR.same sm' b hb
   ·refine⟨gr.none ht0,?_⟩
    rw[ak (fun z=>npt z.symm),aw];exact⟨_,rfl⟩
end Wale
end
section
set_option Elab.async false
set_option linter.all false
set_option maxRecDepth 100000
set_option maxHeartbeats 2000000
namespace Wale
open PySem PySem.Spec PyProof.Rows L2
open Wm
open LsWale (ascii Fault eatSign eatWord eatOpen anyName newName oldName markName holdName wanted isName)
variable {P:Program}{w:World}{K:PySem.W.Frag}{mg:Str->Option Value}{base:Heap}{a:Ad}
theorem lZ(n:Nat):Str.ofString (toString (n:Int))=strOf (LsWale.decimal n):=by
 have h:=PySem.W.KIN.signs_num n
 have e:(LsWale.decimal n).map UInt8.toNat=(Nat.toDigits 10 n).map Char.toNat:=by
  unfold LsWale.decimal
  rw[List.map_map]
  refine List.map_congr_left fun c hc=>?_
  have hd:=Nat.isDigit_of_mem_toDigits (by decide) (by decide) hc
  show(UInt8.ofNat c.toNat).toNat=c.toNat
  rw[UInt8.toNat_ofNat']
  have:c.toNat<=57:=by
   unfold Char.isDigit at hd
   rw[Bool.and_eq_true,decide_eq_true_eq,decide_eq_true_eq]at hd
   exact hd.2
  lia
 unfold strOf
 rw[e,<-h]
theorem Me{b:Bytes}{p n:Nat}(h:ao b p=.num n):n<=1048576:=by
 unfold ao at h
 generalize b.drop (aS b p)=z at h
 unfold LsWale.oneToken at h
 split at h
 ·cases h
 ·split at h
  ·cases h
  ·split at h
   ·split at h
    ·rename_i hn
     cases h
     unfold LsWale.isNumber at hn
     rw[Bool.and_eq_true,decide_eq_true_eq]at hn
     exact hn.2
    ·cases h
   ·split at h<;>cases h
theorem zH{n:Nat}(h:n<=1048576):(n:Int).natAbs.log2<1920:=by
 rw[Int.natAbs_natCast]
 have h2:n.log2<=n:=Nat.log2_le_self n
 by_cases z:n=0
 ·rw[z];decide
 ·have:n.log2<21:=(Nat.log2_lt z).mpr (by lia)
  lia
theorem G1{H0 H:Hp}{n:Nat}{x:a0}(h:cW x=0):Md (b7 a n) H0 H (.str (strOf (LsWale.sumText x))) x:=⟨fun _=>False,BN a n ⟨h,rfl⟩,fun _ z=>z.elim⟩
theorem DZ{b:Bytes}{R:RA}{p d:Nat}{L:NL}{H:Hp}{Q:VK}{E:XK}{kd:Str}(hR:aq a K b R p d L H)(hb:gK K a b p E)(k1:cz b p->fo (ao b p)=kd->∀(H':Hp)(x:Addr),aq a K b R (az b p) d L H'->aH R H H'->c7 a b p H' x->Q (.ref x) H')
  (k2:cz b p->fo (ao b p)≠kd->Told K a E 3 (aS b p:Nat)):gy K a fo [.ref R.r,.str kd] H Q E:=by
 unfold gy
 exact⟨b,R,p,d,L,kd,rfl,hR,hb,k1,k2⟩
theorem aq.ins{b:Bytes}{R:RA}{p d:Nat}{L:NL}{H:Hp}(h:aq a K b R p d L H):H R.r=some (.ins a.bj h.obj.choose (lJ R.t h.obj.choose_spec.choose p d R.N.n)):=h.obj.choose_spec.choose_spec.1
@[irreducible] def i8{α:Type}(K:PySem.W.Frag)(a:Ad)(m:Nat)(ρ:Rep α)(S:Nat->ah->Except Fault (α×ah)):Sp:=fun vs H Q E=>∃(b:Bytes)(R:RA)(p d:Nat)(e:aC),vs=[.ref R.r]/\aq a K b R p d (lst e) H/\d<=8/\8<d+m/\Tl K a E (S d (ae b p e))/\
 ∀x p' e',S d (ae b p e)=.ok (x,ae b p' e')->∀(H':Hp)(v:V),aq a K b R p' d (lst e') H'->aH R H H'->Md ρ H H' v x->Q v H'
theorem fh{α:Type}{m:Nat}{ρ:Rep α}{S:Nat->ah->Except Fault (α×ah)}(vs:List V)(H:Hp)(Q:VK)(E:XK)(h:i8 K a m ρ S vs H Q E):vs.length=1:=by
 unfold i8 at h
 obtain⟨_,_,_,_,_,rfl,_⟩:=h;rfl
theorem wx{α:Type}{ρ:Rep α}{S:Nat->ah->Except Fault (α×ah)}{k:Nat}{f:Addr}{fd:FuncData}{CX:eg}:ay P w K mg base CX k f fd ["reader"] (i8 K a 0 ρ S):=
 ⟨fh,fun A outer s H args us vs Q E hr he hb hv hs=>by unfold i8 at hs;obtain⟨_,_,_,_,_,_,_,h1,h2,_⟩:=hs;lia⟩
section
variable {α β:Type}{b:Bytes}{R:RA}{p d m:Nat}{L:NL}{e:aC}{H:Hp}{Q:VK}{E:XK}{r:Except Fault (α×ah)}
theorem cf{ρ:Rep β}{S:Nat->ah->Except Fault (β×ah)}{f:β×ah->Except Fault (α×ah)}(hR:aq a K b R p d (lst e) H)(hd:d<=8)(hm:8<d+m)(hT:Tl K a E r)(hr:r=S d (ae b p e)>>=f)(hB:∀x s k pl,HB s k pl->bJ (f (x,s)) k pl)
  (kk:∀x p' e',S d (ae b p e)=.ok (x,ae b p' e')->r=f (x,ae b p' e')->∀(H':Hp)(v:V),aq a K b R p' d (lst e') H'->aH R H H'->Md ρ H H' v x->Q v H'):i8 K a m ρ S [.ref R.r] H Q E:=by
 unfold i8
 exact⟨b,R,p,d,e,rfl,hR,hd,hm,fun k pl h=>hT k pl (by rw[hr];exact h.bind fun x s hb=>hB x s k pl hb),fun x p' e' hS=>kk x p' e' hS (by rw[hr,hS];rfl)⟩
end
theorem fR{α:Type}{m:Nat}{ρ:Rep α}{S:Nat->ah->Except Fault (α×ah)}{vs:List V}{H:Hp}{Q:VK}{E:XK}(h:i8 K a m ρ S vs H Q E):∃(b:Bytes)(R:RA)(p d:Nat)(e:aC),vs=[.ref R.r]/\aq a K b R p d (lst e) H/\d<=8/\8<d+m/\Tl K a E (S d (ae b p e))/\
 ∀x p' e',S d (ae b p e)=.ok (x,ae b p' e')->∀(H':Hp)(v:V),aq a K b R p' d (lst e') H'->aH R H H'->Md ρ H H' v x->Q v H':=by unfold i8 at h;exact h
theorem vy{b:Bytes}{p:Nat}:fo (ao b p)=("number":Str)↔∃n,ao b p=.num n:=by
 cases ao b p with
 |word x=>
  refine⟨fun z=>?_,fun⟨_,z⟩=>by cases z⟩
  have z:dP x="number":=z
  unfold dP at z
  split at z<;>exact absurd z (by decide +kernel)
 |num n=>exact⟨fun _=>⟨n,rfl⟩,fun _=>rfl⟩
 |sign c=>exact⟨fun z=>absurd z (by show ¬(("fixed":Str)="number");decide +kernel),fun⟨_,z⟩=>by cases z⟩
 |bad k=>exact⟨fun z=>absurd z (by show ¬(("":Str)="number");decide +kernel),fun⟨_,z⟩=>by cases z⟩
 |done=>exact⟨fun z=>absurd z (by show ¬(("end":Str)="number");decide +kernel),fun⟨_,z⟩=>by cases z⟩
theorem Nn{b:Bytes}{p d n:Nat}{e:aC}(h:ao b p=.num n):bg .fact d (ae b p e)=.ok (.num n,ae b (az b p) e):=by
 rw[ML (by rw[d9,h]),cK (by rw[h];rfl)]
theorem IS{b:Bytes}{p d:Nat}{e:aC}{x:Bytes}(h:nameAt b p=some x):bg .fact d (ae b p e)=oldName e.lets (ae b p e)>>=fun x=>.ok (.name (aS b p) x.1,x.2):=
 Bq (by rw[d9,(tX h).1])
theorem Pq{b:Bytes}{p d:Nat}{e:aC}(nb:cz b p)(h1:∀n,ao b p≠ .num n)(h2:nameAt b p=none):
  bg .fact d (ae b p e)=eatOpen '(' d (ae b p e)>>=fun t=>bg .sum (d+1) t>>=fun x=>eatSign ')' x.2>>=fun u=>.ok (x.1,u):=by
 by_cases hw:∃x,ao b p=.word x
 ·obtain⟨x,hx⟩:=hw
  rw[Bq (by rw[d9,hx])]
  unfold oldName eatOpen
  rw[any_none h2,if_pos (by rw[gA,hx];rfl),fC nb,fC nb]
  rfl
 ·exact EW (fun p' n r z=>by rw[d9]at z;exact h1 n (congrArg LsWale.Token.tok (List.cons.inj z).1)) (fun p' x r z=>by rw[d9]at z;exact hw ⟨x,congrArg LsWale.Token.tok (List.cons.inj z).1⟩)
abbrev cV{α:Type}(P:Program)(w:World)(K:PySem.W.Frag)(mg:Str->Option Value)(base:Heap)(a:Ad)(k:Nat)(f:Addr)(fd:FuncData)(m:Nat)(ρ:Rep α)(S:Nat->ah->Except Fault (α×ah)):Prop:=ay P w K mg base (bh P w) k f fd ["reader"] (i8 K a m ρ S)
theorem wW:aI ["reader","token","node"] ["reader"] (aB zP):=⟨rfl,rfl,rfl,by decide +kernel,rfl,by decide +kernel,by decide +kernel⟩
theorem zr{α:Type}{x:α}{s:ah}{c:Char}{k pl:Nat}(h:HB s k pl):bJ (eatSign c s>>=fun u=>(.ok (x,u):Except Fault (α×ah))) k pl:=by rw[vM h];exact .inl rfl
theorem Qk(T:Tx P w K mg a){m n:Nat}(F:cV P w K mg base a (10+3*m) a.lQ a.lT m (b7 a n) (bg .sum)):cV P w K mg base a (10+3*m+1) a.mG a.nO (m+1) (b7 a n) (bg .fact):=by
 refine aE.bx (k:=10+3*m) T.yP.fn wW fh (fun cdv A outer s H vs Q E hr h=>?_)
 obtain⟨b,R,p,d,e,rfl,hR,hd,hm,hT,kk⟩:=fR h
 have C:=T.bE.cl
 refine⟨_,ai (aY (i:=1) wW.nd rfl (Or.inl rfl) (cx (pv 0) C T.bX.mt (hU T) (hr.mono (by first|decide|lia)) T.bX.bd .nil au))
  (ai (a5 (a6 cq (aD (pv 1) rfl) (bB T.vV) (a4 _)) (aj (aN (Hv M7 rfl T.JD rfl (aa (aD (cx (pv 0) C T.cT.mt (jf T) (hr.mono (by first|decide|lia)) T.cT.bd .nil au) rfl) ag)))) ba)
  (ai (a5 (a6 cq (aD (pv 1) rfl) (bB T.jA) (a4 _)) (aj (aN ((aZ (pv 0) C T.iI.mt (vc T) (hr.mono (by first|decide|lia)) T.iI.bd .nil au (aa (bB T.ui) ag))))) ba)
  (ai (a3 (aZ (pv 0) C T.lN.mt (Ax T) (hr.mono (by first|decide|lia)) T.lN.bd .nil au (aa aP ag))) (ai (aY (i:=2) wW.nd rfl (Or.inl rfl) (aQ T.iH F (hr.mono (by first|decide|lia)) au (aa (pv 0) ag))) (ai (a3 (aZ (pv 0) C T.lg.mt (yA T) (hr.mono (by first|decide|lia)) T.lg.bd .nil au (aa aP ag))) (aj (aN (pv 2)))))))),?_⟩
 refine(rM rfl hR.ins rfl ?_)
 refine me (e:=e) hR hT (fun k pl hb=>.inl (KQ hb d)) fun nb H1 x hR1 kp1 tk1=>?_
 obtain⟨dt,ft,et,lt1,lt2,lt3,lt4,lt5⟩:=tk1
 refine(rF rfl et T.bz.cl T.kj lt1 ⟨rfl,eX _ rfl ?_⟩)
 rw[cR]
 refine aV (fun c=>?_) (fun c=>?_)
 ·obtain⟨n,hn⟩:=vy.mp (of_decide_eq_true c)
  refine(rM rfl hR1.ins rfl ?_)
  refine iK hR1 nb fun H2 y hR2 kp2 tk2=>?_
  obtain⟨dt,ft,et,lt1,lt2,lt3,lt4,lt5⟩:=tk2
  rw[hn]at lt3
  refine(rG rfl et T.bz.cl T.qK lt3 (eX _ rfl ⟨zH (Me hn),?_⟩))
  refine kk _ _ _ (Nn hn) H2 _ hR2 (kp1.trans kp2) ?_
  rw[show(Str.ofString (toString ((Ai (.num n):Nat):Int)):Str)=strOf (LsWale.decimal n)from lZ n]
  exact G1 (x:=.num n) rfl
 have h1:∀n,ao b p≠ .num n:=fun n z=>c (decide_eq_true (vy.mpr ⟨n,z⟩))
 refine(rF rfl et T.bz.cl T.kj lt1 ⟨rfl,eX _ rfl ?_⟩)
 rw[cR]
 refine aV (fun c2=>?_) (fun c2=>?_)
 ·obtain⟨z,hz⟩:=gu.mp (of_decide_eq_true c2)
  refine(rM rfl hR1.ins rfl ?_)
  exact uE (k:=.eW) hR1 rfl hT (IS hz) rfl fun y hy H2 hR2 kp2=>kk _ _ _ hy H2 _ hR2 (kp1.trans kp2) (G1 (x:=.name (aS b p) y) rfl)
 have h2:nameAt b p=none:=by
  cases hx:nameAt b p with
  |none=>rfl
  |some x=>exact absurd (decide_eq_true (gu.mpr ⟨x,hx⟩)) c2
 refine(rM rfl hR1.ins rfl ?_)
 refine ym hR1 hd hT (Pq nb h1 h2) fun e1 l8 hs H2 hR2 kp2=>?_
 refine(eX _ rfl ?_)
 refine cf (m:=m) hR2 (by lia) (by lia) hT e1 (fun x s k pl hb=>zr hb) fun y p' e' hS e2 H3 v hR3 kp3 md3=>?_
 refine(rM rfl hR3.ins rfl ?_)
 refine AD hR3 hT e2 fun e3 H4 hR4 kp4=>(eX _ rfl ?_)
 exact kk _ _ _ e3 H4 v hR4 (((kp1.trans kp2).trans kp3).trans kp4) ((md3.keep (dE a n) hR2.cells kp4).old ((kp1.trans kp2).grow hR2.cells))
end Wale
end
section
set_option Elab.async false
set_option linter.all false
set_option maxRecDepth 100000
set_option maxHeartbeats 2000000
namespace Wale
open PySem PySem.Spec PyProof.Rows L2
open Wm
open LsWale (Level sumAt eatSign eatOpen oldName wanted Fault)
theorem aG{α β:Type}{r:Except Fault α}{f:α->Except Fault β}{y:β}(q:(r>>=f)=.ok y):∃z,r=.ok z/\f z=.ok y:=by
 cases r with
 |error f=>cases q
 |ok z=>exact⟨z,rfl,q⟩
def iD:Level->Nat
 | .sumRest x=>dq x
 | .prodRest x=>dq x
 |_=>0
def one:Level->Nat
 | .sumRest _=>0
 | .prodRest _=>0
 |_=>1
theorem gC:∀(f:Nat)(lv:Level)(d:Nat)(s:ah)(x:a0)(t:ah),sumAt f lv d s=.ok (x,t)->dq x+t.ts.length+one lv<=s.ts.length+iD lv
 |0,lv,d,s,x,t,h=>by rw[sumAt]at h;exact absurd h (by unfold wanted;split<;>exact fun z=>nomatch z)
 |f+1,.sum,d,s,x,t,h=>by
  rw[sumAt]at h
  obtain⟨⟨y,u⟩,h1,h2⟩:=aG h
  have i1:=gC f .prod d s y u h1
  have i2:=gC f (.sumRest y) d u x t h2
  simp only[iD,one]at *
  lia
 |f+1,.prod,d,s,x,t,h=>by
  rw[sumAt]at h
  obtain⟨⟨y,u⟩,h1,h2⟩:=aG h
  have i1:=gC f .fact d s y u h1
  have i2:=gC f (.prodRest y) d u x t h2
  simp only[iD,one]at *
  lia
 |f+1,.sumRest z,d,s,x,t,h=>by
  rw[sumAt]at h
  split at h
  ·rename_i c
   obtain⟨⟨y,u⟩,h1,h2⟩:=aG h
   have i0:=aX (jT c)
   have i1:=gC f .prod d s.next y u h1
   have i2:=gC f (.sumRest _) d u x t h2
   simp only[iD,one,dq]at *
   lia
  ·cases h
   simp only[iD,one]
   lia
 |f+1,.prodRest z,d,s,x,t,h=>by
  rw[sumAt]at h
  split at h
  ·rename_i c
   obtain⟨⟨y,u⟩,h1,h2⟩:=aG h
   have i0:=aX (jT c)
   have i1:=gC f .fact d s.next y u h1
   have i2:=gC f (.prodRest _) d u x t h2
   simp only[iD,one,dq]at *
   lia
  ·cases h
   simp only[iD,one]
   lia
 |f+1,.fact,d,s,x,t,h=>by
  rw[sumAt]at h
  split at h
  ·rename_i q
   cases h
   have:=aX (s:=s) (by rw[q];simp)
   simp only[iD,one,dq]
   lia
  ·obtain⟨y,h1,h2⟩:=aG h
   cases h2
   have:=nZ y.1 y.2 h1
   simp only[iD,one,dq]
   lia
  ·obtain⟨u,h1,h2⟩:=aG h
   obtain⟨⟨y,v⟩,h3,h4⟩:=aG h2
   obtain⟨z,h5,h6⟩:=aG h4
   cases h6
   have i0:=g9 _ h1
   have i1:=gC f .sum (d+1) u y v h3
   have i2:=dA _ h5
   simp only[iD,one]at *
   lia
theorem BX{d:Nat}{s t:ah}{x:a0}(h:bg .fact d s=.ok (x,t)):dq x+t.ts.length<s.ts.length:=gC _ .fact d s x t h
theorem Bc{d:Nat}{s t:ah}{x:a0}(h:bg .prod d s=.ok (x,t)):dq x+t.ts.length<s.ts.length:=gC _ .prod d s x t h
theorem toks_le(b:Bytes)(p:Nat):(toks b p).length<=b.length+1:=by
 have:∀(f p:Nat)(b:Bytes),(LsWale.tokensFrom f p b).length<=f:=fun f=>by
  induction f with
  |zero=>intro p b;exact Nat.zero_le _
  |succ f ih=>
   intro p b
   rw[LsWale.tokensFrom]
   rw[List.length_cons]
   have:=ih
   split
   ·exact Nat.succ_le_succ (Nat.zero_le _)
   ·exact Nat.succ_le_succ (Nat.zero_le _)
   ·exact Nat.succ_le_succ (ih _ _)
 have h:=this ((b.drop p).length+1) p (b.drop p)
 unfold toks
 rw[List.length_drop]at h ⊢
 lia
theorem rS{b:Bytes}(h:b.length<=20000)(p:Nat):(toks b p).length<sizeLine:=by
 have:=toks_le b p
 have:sizeLine=16777216:=by decide
 lia
end Wale
end
section
set_option Elab.async false
set_option linter.all false
set_option maxRecDepth 100000
set_option maxHeartbeats 2000000
namespace Wale
open PySem PySem.Spec PyProof.Rows L2
open Wm
open LsWale (ascii Fault eatSign eatWord eatOpen anyName newName oldName markName holdName wanted isName)
variable {P:Program}{w:World}{K:PySem.W.Frag}{mg:Str->Option Value}{base:Heap}{a:Ad}
theorem GK{b:Bytes}{p:Nat}{e:aC}(cs:List Char){l:List Str}(hl:l=cs.map fun c=>strOf [UInt8.ofNat c.toNat])(hc:∀c∈cs,LsWale.isLetter (UInt8.ofNat c.toNat)=false):
  dY (.str (bo (ao b p))) (l.map V.str)=cs.any fun c=>(ae b p e).isSign c:=by
 subst hl
 have h1:(cs.map fun c=>strOf [UInt8.ofNat c.toNat])=(cs.map fun c=>[UInt8.ofNat c.toNat]).map strOf:=by rw[List.map_map];rfl
 rw[mX,h1,oh]
 induction cs with
 |nil=>rfl
 |cons c r ih=>
  rw[List.map_cons,List.contains_cons,List.any_cons,ih (fun c h=>hc c (List.mem_cons_of_mem _ h)) (by rw[List.map_map];rfl)]
  congr 1
  rw[Bool.eq_iff_iff,beq_iff_eq]
  exact gZ b p e (hc c (List.mem_cons_self ..))
theorem in_words{b:Bytes}{p:Nat}{e:aC}(ws:List String){l:List Str}(hl:l=ws.map fun c=>strOf (ascii c))(hc:∀c∈ws,iN c=true):
  dY (.str (bo (ao b p))) (l.map V.str)=ws.any fun c=>(ae b p e).isWord c:=by
 subst hl
 have h1:(ws.map fun c=>strOf (ascii c))=(ws.map fun c=>ascii c).map strOf:=by rw[List.map_map];rfl
 rw[mX,h1,oh]
 induction ws with
 |nil=>rfl
 |cons c r ih=>
  rw[List.map_cons,List.contains_cons,List.any_cons,ih (fun c h=>hc c (List.mem_cons_of_mem _ h)) (by rw[List.map_map];rfl)]
  congr 1
  rw[Bool.eq_iff_iff,beq_iff_eq]
  exact kP b p e (hc c (List.mem_cons_self ..))
section
variable {α β:Type}{b:Bytes}{R:RA}{p d m:Nat}{L:NL}{e:aC}{H:Hp}{E:XK}{r:Except Fault (α×ah)}{σ:L2.St}{Q:Bool->Hp->Prop}
theorem y3{z1 z2:Str}(T:Tx P w K mg a)(h0:σ[0]? =some (some (.ref R.r)))(hR:aq a K b R p d L H)(hT:Tl K a E r)(hb:∀k pl,HB (ae b p e) k pl->bJ r k pl)
  (k:cz b p->∀H':Hp,aq a K b R p d L H'->aH R H H'->Q (dY (.str (bo (ao b p))) [.str z1,.str z2]) H'):
  g8 (d6 (Df K false) (oO K (vC a.bj "peek" (mZ K a) [] E (bD 0) eC) "text") (Ff (bV (tC (.str z1)) (bV (tC (.str z2)) eC)))) σ H Q:=by
 refine⟨_,h0,R.r,_,eX _ rfl ⟨hR.ins,rfl,me hR hT hb fun nb H1 x hR1 kp1 tk1=>?_⟩⟩
 obtain⟨dt,ft,et,lt1,lt2,lt3,lt4,lt5⟩:=tk1
 refine(rG rfl et T.bz.cl T.bZ lt2 ⟨(by show 2<=sizeLine;decide),fun q hq=>?_⟩)
 refine⟨q,eX _ rfl ⟨.inr (.inl (.inl aw)),rfl,rfl,eX _ rfl ?_⟩⟩
 rw[if_neg Bool.false_ne_true]
 exact k nb _ (hR1.same (aO hq)) (kp1.trans (bq (aO hq)))
theorem As{l:List Str}{dd:Addr}(T:Tx P w K mg a)(h0:σ[0]? =some (some (.ref R.r)))(hR:aq a K b R p d L H)(hT:Tl K a E r)(hb:∀k pl,HB (ae b p e) k pl->bJ r k pl)
  (k:cz b p->∀H':Hp,aq a K b R p d L H'->aH R H H'->Q (dY (.str (bo (ao b p))) (l.map V.str)) H'):
  g8 (d6 (oU l dd) (oO K (vC a.bj "peek" (mZ K a) [] E (bD 0) eC) "text") (tC (.ref dd))) σ H Q:=by
 refine⟨_,h0,R.r,_,eX _ rfl ⟨hR.ins,rfl,me hR hT hb fun nb H1 x hR1 kp1 tk1=>?_⟩⟩
 obtain⟨dt,ft,et,lt1,lt2,lt3,lt4,lt5⟩:=tk1
 exact(rG rfl et T.bz.cl T.bZ lt2 ⟨rfl,eX _ rfl (eX _ rfl (k nb H1 hR1 kp1))⟩)
end
theorem nH{α:Type}{r:Except Fault (α×ah)}{x:α}{s:ah}{k pl:Nat}(h:r=.ok (x,s))(hb:HB s k pl):bJ r k pl:=.inr ⟨x,s,h,hb⟩
theorem ug:aI ["reader","node","sign"] ["reader"] (aB wK):=⟨rfl,rfl,rfl,by decide +kernel,rfl,by decide +kernel,by decide +kernel⟩
theorem mH{α:Type}{b:Bytes}{p p':Nat}{e e':aC}{x:α}{g:Except Fault (α×ah)}(h:Lt (ae b p e).ts.length g)(hS:g=.ok (x,ae b p' e')):(toks b p').length<(toks b p).length:=h _ _ hS
theorem oP{b:Bytes}{p:Nat}(h:cO (ao b p)=true):(toks b (az b p)).length<(toks b p).length:=by
 have h1:=aX (s:=ae b p .none_) (by rw[d9];exact List.cons_ne_nil _ _)
 rw[cK h]at h1
 exact h1
theorem Ou{b:Bytes}{p:Nat}{e:aC}:dY (.str (bo (ao b p))) [.str "*",.str "/"]=((ae b p e).isSign '*'||(ae b p e).isSign '/'):=by
 have h:=GK (b:=b) (p:=p) (e:=e) ['*','/'] (l:=["*","/"]) (by decide +kernel) (by decide +kernel)
 rw[show(['*','/'].any fun c=>(ae b p e).isSign c)=((ae b p e).isSign '*'||((ae b p e).isSign '/'||false))from rfl,Bool.or_false]at h
 exact h
theorem Kw{b:Bytes}{p:Nat}{e:aC}:dY (.str (bo (ao b p))) [.str "+",.str "-"]=((ae b p e).isSign '+'||(ae b p e).isSign '-'):=by
 have h:=GK (b:=b) (p:=p) (e:=e) ['+','-'] (l:=["+","-"]) (by decide +kernel) (by decide +kernel)
 rw[show(['+','-'].any fun c=>(ae b p e).isSign c)=((ae b p e).isSign '+'||((ae b p e).isSign '-'||false))from rfl,Bool.or_false]at h
 exact h
theorem uQ{b:Bytes}{p:Nat}{e:aC}{c c':Char}(h:((ae b p e).isSign c||(ae b p e).isSign c')=true):cO (ao b p)=true:=by
 rcases(Bool.or_eq_true _ _).mp h with h|h
 ·exact gI h
 ·exact gI h
theorem Kb{b:Bytes}{p:Nat}{e:aC}(h:((ae b p e).isSign '*'||(ae b p e).isSign '/')=true):bo (ao b p)=strOf [if(ae b p e).isSign '*'=true then 42 else 47]:=by
 by_cases c:(ae b p e).isSign '*'=true
 ·rw[if_pos c]
  rw[gA,decide_eq_true_eq]at c
  rw[c];rfl
 ·rw[if_neg c]
  have h:(ae b p e).isSign '/'=true:=((Bool.or_eq_true _ _).mp h).resolve_left c
  rw[gA,decide_eq_true_eq]at h
  rw[h];rfl
theorem OW{b:Bytes}{p:Nat}{e:aC}(h:((ae b p e).isSign '+'||(ae b p e).isSign '-')=true):bo (ao b p)=strOf [if(ae b p e).isSign '+'=true then 43 else 45]:=by
 by_cases c:(ae b p e).isSign '+'=true
 ·rw[if_pos c]
  rw[gA,decide_eq_true_eq]at c
  rw[c];rfl
 ·rw[if_neg c]
  have h:(ae b p e).isSign '-'=true:=((Bool.or_eq_true _ _).mp h).resolve_left c
  rw[gA,decide_eq_true_eq]at h
  rw[h];rfl
theorem Pb{c:Bool}:dJ (if c=true then 42 else 47)=2:=by cases c<;>decide
theorem MU{c:Bool}:dJ (if c=true then 43 else 45)=1:=by cases c<;>decide
def Node(a:Ad)(n l:Nat)(H0 H:Hp)(v:V)(x:a0):Prop:=Md (b7 a n) H0 H v x\/(cW x=l/\Md (b7 a (n+1)) H0 H v x)
theorem Node.up{n l:Nat}{H0 H:Hp}{v:V}{x:a0}(h:Node a n l H0 H v x):Md (b7 a (n+1)) H0 H v x:=h.elim (fun m=>m.map fun F q=>qi a n q) fun m=>m.2
theorem Node.keep{b:Bytes}{R:RA}{n l:Nat}{H0 H H':Hp}{v:V}{x:a0}(h:Node a n l H0 H v x)(c:mT R H0)(k:aH R H H'):Node a n l H0 H' v x:=
 h.elim (fun m=>.inl (m.keep (dE a n) c k)) fun m=>.inr ⟨m.1,m.2.keep (dE a (n+1)) c k⟩
theorem CO{n l:Nat}{c:UInt8}{lv rv:V}{xl xr:a0}{H0 H1 H:Hp}{p:Nat}{Q:VK}{b:Bytes}{R:RA}{p0 d0:Nat}{L0:NL}(hc:dJ c=l)(hL:Node a n l H0 H1 lv xl)(hR0:aq a K b R p0 d0 L0 H0)(g1:cp H0 H1)(k:aH R H1 H)(gk:cp H1 H)(hR:Md (b7 a n) H1 H rv xr)(hz:dq xl<sizeLine)
  (kk:∀(H':Hp)(v:V)(q:Addr),dB H0 H H' q->Node a n l H0 H' v (.op c p xl xr)->Q v H'):Dd a n [.int (l:Int),lv,.str (strOf [c]),rv] H Q E0:=by
 obtain⟨FR,q,sR⟩:=hR
 have kk':∀(H':Hp)(v:V)(q:Addr),dB H0 H H' q->Md (b7 a (n+1)) H0 H' v (.op c p xl xr)->Q v H':=fun H' v q lc md=>kk H' v q lc (.inr ⟨hc,md⟩)
 rcases hL with ⟨FL,z,sL⟩|⟨hl,FL,z,sL⟩
 ·have dj:∀b,FL b->¬FR b:=fun b h1 h2=>by obtain⟨_,o,e⟩:=sL b h1;rw[(sR b h2).1]at e;cases e
  have z':=(dE a n).frame z (sL.eq hR0.cells k)
  by_cases hl:cW xl=l
  ·exact⟨l,c,lv,rv,xl,xr,H0,FL,FR,p,rfl,hc,.inl ⟨hl,qi a n z'⟩,q,sL.keep hR0.cells k,sR.old g1,dj,g1.trans gk,hz,kk'⟩
  ·exact⟨l,c,lv,rv,xl,xr,H0,FL,FR,p,rfl,hc,.inr ⟨hl,z'⟩,q,sL.keep hR0.cells k,sR.old g1,dj,g1.trans gk,hz,kk'⟩
 ·have dj:∀b,FL b->¬FR b:=fun b h1 h2=>by obtain⟨_,o,e⟩:=sL b h1;rw[(sR b h2).1]at e;cases e
  exact⟨l,c,lv,rv,xl,xr,H0,FL,FR,p,rfl,hc,.inl ⟨hl,(dE a (n+1)).frame z (sL.eq hR0.cells k)⟩,q,sL.keep hR0.cells k,sR.old g1,dj,g1.trans gk,hz,kk'⟩
theorem Lh(T:Tx P w K mg a){k m n:Nat}(hk:9<=k)(F:cV P w K mg base a k a.mG a.nO m (b7 a n) (bg .fact)):cV P w K mg base a (k+1) a.nJ a.ng m (b7 a (n+1)) (bg .prod):=by
 refine aE.bx (k:=k) T.wm.fn ug fh (fun cdv A outer s H vs Q E hr h=>?_)
 obtain⟨b,R,p,d,e,rfl,hR,hd,hm,hT,kk⟩:=fR h
 have C:=T.bE.cl
 refine⟨_,ai (aY (i:=1) ug.nd rfl (Or.inl rfl) (aQ T.yP F hr au (aa (pv 0) ag)))
  (ai (f7 hG (a6 q5 (aD (cx (pv 0) C T.bX.mt (hU T) (hr.mono (by first|decide|lia)) T.bX.bd .nil au) rfl) (kO (aa aP (aa aP ag))) (by rfl)) (ai (aY (i:=2) ug.nd rfl (Or.inl rfl) (aD (cx (pv 0) C T.cT.mt (jf T) (hr.mono (by first|decide|lia)) T.cT.bd .nil au) rfl))
   (aj (aY (i:=1) ug.nd rfl (Or.inl rfl) (aQ T.Al (Cy T n) (hr.mono (by first|decide|lia)) aU (aa (cP T.OD) (aa (pv 1) (aa (pv 2) (aa (aQ T.yP F hr au (aa (pv 0) ag)) ag)))))))))
  (aj (aN (pv 1)))),?_⟩
 refine(eX _ rfl ?_)
 refine cf hR hd hm hT (PN d _) (fun x s k pl hb=>nH (xa hb x d) hb) fun x p1 e1 hS h1 H1 v hR1 kp1 md1=>?_
 let I:a0×Nat×aC->L2.St->Hp->Prop:=fun i σ H'=>∃v sg,σ=[some (.ref R.r),some v,sg]/\aq a K b R i.2.1 d (lst i.2.2) H'/\aH R H H'/\bg .prod d (ae b p e)=bg (.prodRest i.1) d (ae b i.2.1 i.2.2)/\dq i.1+(toks b i.2.1).length<(toks b p).length/\Node a n 2 H H' v i.1
 let μ:a0×Nat×aC->Nat:=fun i=>(toks b i.2.1).length
 refine gx I μ (x,p1,e1) ⟨v,none,rfl,hR1,kp1,h1,BX hS,.inl md1⟩ ?_
 rintro⟨x,p1,e1⟩ σ H2 ⟨v,sg,rfl,hR2,kp2,h2,ho,nd⟩
 dsimp only at hR2 h2 ho nd
 refine y3 (e:=e1) T rfl hR2 hT (fun k pl hb=>by rw[h2];exact nH (xa hb x d) hb) fun nb H3 hR3 kp3=>?_
 rw[Ou (e:=e1)]
 rw[En]at h2
 have nd3:=nd.keep (b:=b) hR.cells kp3
 refine aV (fun c=>?_) (fun c=>?_)
 ·rw[if_pos c,cK (uQ c)]at h2
  refine fM (I:=I) (μ:=μ) (i:=(x,p1,e1)) ?_
  refine(rM rfl hR3.ins rfl ?_)
  refine iK hR3 nb fun H4 y hR4 kp4 tk4=>?_
  obtain⟨dt,ft,et,lt1,lt2,lt3,lt4,lt5⟩:=tk4
  rw[Kb c]at lt2
  refine(rG rfl et T.bz.cl T.bZ lt2 (eX _ rfl (eX _ rfl (eX _ rfl ?_))))
  refine cf hR4 hd hm hT h2 (fun x s k pl hb=>nH (xa hb _ d) hb) fun x' p2 e2 hS2 h3 H5 w5 hR5 kp5 md5=>?_
  have kp04:=(kp2.trans kp3).trans kp4
  have l1:=BX hS2
  have l2:=oP (uQ c)
  have l1:dq x'+(toks b p2).length<(toks b (az b p1)).length:=l1
  have sz:=rS hR.len p
  refine CO (p:=(ae b p1 e1).place) Pb (nd3.keep (b:=b) hR.cells kp4) hR (kp04.grow hR4.cells) kp5 (kp5.grow hR5.cells) md5 (by lia) fun H6 v6 q6 lc nd6=>?_
  refine⟨(_,p2,e2),?_,v6,eX _ rfl ⟨hR5.bO hR lc,(kp04.trans kp5).bO lc,h3,?_,nd6⟩⟩
  ·show(toks b p2).length<(toks b p1).length
   lia
  ·show dq x+dq x'+1+(toks b p2).length<(toks b p).length
   lia
 ·rw[if_neg c]at h2
  exact(eX _ rfl (kk _ _ _ h2 H3 v hR3 (kp2.trans kp3) nd3.up))
end Wale
end
section
set_option Elab.async false
set_option linter.all false
set_option maxRecDepth 100000
set_option maxHeartbeats 2000000
namespace Wale
open PySem PySem.Spec PyProof.Rows L2
open Wm
open LsWale (ascii Fault eatSign eatWord eatOpen anyName newName oldName markName holdName wanted isName)
variable {P:Program}{w:World}{K:PySem.W.Frag}{mg:Str->Option Value}{base:Heap}{a:Ad}
theorem tT:aI ["reader","node","sign"] ["reader"] (aB yS):=⟨rfl,rfl,rfl,by decide +kernel,rfl,by decide +kernel,by decide +kernel⟩
theorem Je(T:Tx P w K mg a){k m n:Nat}(hk:9<=k)(F:cV P w K mg base a k a.nJ a.ng m (b7 a n) (bg .prod)):cV P w K mg base a (k+1) a.lQ a.lT m (b7 a (n+1)) (bg .sum):=by
 refine aE.bx (k:=k) T.iH.fn tT fh (fun cdv A outer s H vs Q E hr h=>?_)
 obtain⟨b,R,p,d,e,rfl,hR,hd,hm,hT,kk⟩:=fR h
 have C:=T.bE.cl
 refine⟨_,ai (aY (i:=1) tT.nd rfl (Or.inl rfl) (aQ T.wm F hr au (aa (pv 0) ag)))
  (ai (f7 hG (a6 q5 (aD (cx (pv 0) C T.bX.mt (hU T) (hr.mono (by first|decide|lia)) T.bX.bd .nil au) rfl) (kO (aa aP (aa aP ag))) (by rfl)) (ai (aY (i:=2) tT.nd rfl (Or.inl rfl) (aD (cx (pv 0) C T.cT.mt (jf T) (hr.mono (by first|decide|lia)) T.cT.bd .nil au) rfl))
   (aj (aY (i:=1) tT.nd rfl (Or.inl rfl) (aQ T.Al (Cy T n) (hr.mono (by first|decide|lia)) aU (aa (cP T.OG) (aa (pv 1) (aa (pv 2) (aa (aQ T.wm F hr au (aa (pv 0) ag)) ag)))))))))
  (aj (aN (pv 1)))),?_⟩
 refine(eX _ rfl ?_)
 refine cf hR hd hm hT (MC d _) (fun x s k pl hb=>nH (An hb x d) hb) fun x p1 e1 hS h1 H1 v hR1 kp1 md1=>?_
 let I:a0×Nat×aC->L2.St->Hp->Prop:=fun i σ H'=>∃v sg,σ=[some (.ref R.r),some v,sg]/\aq a K b R i.2.1 d (lst i.2.2) H'/\aH R H H'/\bg .sum d (ae b p e)=bg (.sumRest i.1) d (ae b i.2.1 i.2.2)/\dq i.1+(toks b i.2.1).length<(toks b p).length/\Node a n 1 H H' v i.1
 let μ:a0×Nat×aC->Nat:=fun i=>(toks b i.2.1).length
 refine gx I μ (x,p1,e1) ⟨v,none,rfl,hR1,kp1,h1,Bc hS,.inl md1⟩ ?_
 rintro⟨x,p1,e1⟩ σ H2 ⟨v,sg,rfl,hR2,kp2,h2,ho,nd⟩
 dsimp only at hR2 h2 ho nd
 refine y3 (e:=e1) T rfl hR2 hT (fun k pl hb=>by rw[h2];exact nH (An hb x d) hb) fun nb H3 hR3 kp3=>?_
 rw[Kw (e:=e1)]
 rw[Bt]at h2
 have nd3:=nd.keep (b:=b) hR.cells kp3
 refine aV (fun c=>?_) (fun c=>?_)
 ·rw[if_pos c,cK (uQ c)]at h2
  refine fM (I:=I) (μ:=μ) (i:=(x,p1,e1)) ?_
  refine(rM rfl hR3.ins rfl ?_)
  refine iK hR3 nb fun H4 y hR4 kp4 tk4=>?_
  obtain⟨dt,ft,et,lt1,lt2,lt3,lt4,lt5⟩:=tk4
  rw[OW c]at lt2
  refine(rG rfl et T.bz.cl T.bZ lt2 (eX _ rfl (eX _ rfl (eX _ rfl ?_))))
  refine cf hR4 hd hm hT h2 (fun x s k pl hb=>nH (An hb _ d) hb) fun x' p2 e2 hS2 h3 H5 w5 hR5 kp5 md5=>?_
  have kp04:=(kp2.trans kp3).trans kp4
  have l1:=Bc hS2
  have l2:=oP (uQ c)
  have l1:dq x'+(toks b p2).length<(toks b (az b p1)).length:=l1
  have sz:=rS hR.len p
  refine CO (p:=(ae b p1 e1).place) MU (nd3.keep (b:=b) hR.cells kp4) hR (kp04.grow hR4.cells) kp5 (kp5.grow hR5.cells) md5 (by lia) fun H6 v6 q6 lc nd6=>?_
  refine⟨(_,p2,e2),?_,v6,eX _ rfl ⟨hR5.bO hR lc,(kp04.trans kp5).bO lc,h3,?_,nd6⟩⟩
  ·show(toks b p2).length<(toks b p1).length
   lia
  ·show dq x+dq x'+1+(toks b p2).length<(toks b p).length
   lia
 ·rw[if_neg c]at h2
  exact(eX _ rfl (kk _ _ _ h2 H3 v hR3 (kp2.trans kp3) nd3.up))
theorem jD(T:Tx P w K mg a):∀m,cV P w K mg base a (10+3*m) a.lQ a.lT m (b7 a (2*m)) (bg .sum)
 |0=>wx
 |m+1=>Je T (k:=10+3*m+1+1) (by lia) (Lh T (by lia) (Qk T (jD T m)))
def Jx(a:Ad):Sp:=fun vs H Q _=>∃(b:Bytes)(p:Nat)(x:Addr),vs=[.ref x]/\c7 a b p H x/\cz b p/\Q (.bl (ae b p .none_).sums) H
theorem NY:aI ["token"] ["token"] (aB xP):=⟨rfl,rfl,rfl,by decide +kernel,rfl,by decide +kernel,by decide +kernel⟩
theorem C0(b:Bytes)(p:Nat)(e e':aC):(ae b p e).sums=(ae b p e').sums:=by rw[vf,vf]
theorem Ir{b:Bytes}{p:Nat}(nb:cz b p):(ae b p .none_).sums=(decide (fo (ao b p)=("number":Str))||(decide (fo (ao b p)=("name":Str))||decide (bo (ao b p)=("(":Str)))):=by
 have h1:decide (bo (ao b p)=("(":Str))=(ae b p .none_).isSign '(':=by
  rw[Bool.eq_iff_iff,decide_eq_true_eq]
  exact(eT (by decide +kernel)).trans (gZ b p .none_ (c:='(') (by decide +kernel))
 rw[h1,vf]
 cases q:ao b p with
 |bad k=>exact absurd q (nb k)
 |num n=>rfl
 |word x=>
  rw[gA,q]
  show isName x=(decide (dP x=("number":Str))||(decide (dP x=("name":Str))||false))
  unfold dP
  by_cases h:isName x=true
  ·rw[if_pos h,h];decide +kernel
  ·rw[if_neg h,Bool.eq_false_iff.mpr h];decide +kernel
 |sign c=>
  rw[gA,q]
  show _=(decide (("fixed":Str)="number")||(decide (("fixed":Str)="name")||_))
  rw[show decide (("fixed":Str)="number")=false by decide +kernel,show decide (("fixed":Str)="name")=false by decide +kernel]
  rfl
 |done=>
  rw[gA,q]
  show _=(decide (("end":Str)="number")||(decide (("end":Str)="name")||_))
  rw[show decide (("end":Str)="number")=false by decide +kernel,show decide (("end":Str)="name")=false by decide +kernel]
  rfl
theorem DL(T:Tx P w K mg a):ay P w K mg base aW 1 a.pL a.qF ["token"] (Jx a):=by
 refine T.yw.fn.ok NY (fun vs H Q E h=>?_) (fun cdv A outer s H vs Q E hr h=>?_)
 ·obtain⟨_,_,_,rfl,_⟩:=h;rfl
 obtain⟨b,p,x,rfl,tk,nb,q⟩:=h
 refine⟨_,aj (aN (tU (jy cq (aD (pv 0) rfl) (bB T.vV) (a4 _)) (tU (jy cq (aD (pv 0) rfl) (bB T.jA) (a4 _)) (vh (jy cq (aD (pv 0) rfl) aP (a4 _)))))),?_⟩
 obtain⟨dt,ft,et,lt1,lt2,lt3,lt4,lt5⟩:=tk
 rw[Ir nb]at q
 have cl:=T.bz.cl
 refine(rF rfl et cl T.kj lt1 ⟨rfl,eX _ rfl ?_⟩)
 rw[cR]
 refine aV (fun c=>?_) (fun c=>?_)
 ·rw[c]at q;exact q
 rw[Bool.eq_false_iff.mpr c,Bool.false_or]at q
 refine(rF rfl et cl T.kj lt1 ⟨rfl,eX _ rfl ?_⟩)
 rw[cR]
 refine aV (fun c=>?_) (fun c=>?_)
 ·rw[c]at q;exact q
 rw[Bool.eq_false_iff.mpr c,Bool.false_or]at q
 refine(rF rfl et cl T.bZ lt2 ⟨rfl,?_⟩)
 rw[cR]
 exact q
section
variable {α β:Type}{b:Bytes}{R:RA}{p d m:Nat}{L:NL}{e:aC}{H:Hp}{Q:VK}{E:XK}{r:Except Fault (α×ah)}
theorem Gv(b:Bytes)(p:Nat)(e:aC):LsWale.wideAt (ae b p e)=match ao b p with
  | .num n=>if 1<=n/\n<=16 then .ok (n,ae b (az b p) e)else .error ⟨6,aS b p⟩
  |_=>wanted (ae b p e):=by
 unfold LsWale.wideAt
 rw[d9]
 cases q:ao b p with
 |num n=>
  dsimp only
  rw[cK (by rw[q];rfl)];rfl
 |_=>rfl
end
def Ie:Rep Nat:=fun _ _ v n=>v=.int (n:Int)
theorem Ed:aI ["reader","token"] ["reader"] (aB xu):=⟨rfl,rfl,rfl,by decide +kernel,rfl,by decide +kernel,by decide +kernel⟩
theorem C9(T:Tx P w K mg a):cV P w K mg base a 10 a.qk a.pA 9 Ie (fun _=>LsWale.wideAt):=by
 refine aE.bx (k:=9) T.yH.fn Ed fh (fun cdv A outer s H vs Q E hr h=>?_)
 obtain⟨b,R,p,d,e,rfl,hR,hd,hm,hT,kk⟩:=fR h
 have C:=T.bE.cl
 refine⟨_,ai (aY (i:=1) Ed.nd rfl (Or.inl rfl) ((aZ (pv 0) C T.fJ.mt (AU T) (hr.mono (by first|decide|lia)) T.fJ.bd .nil au (aa (bB T.vV) ag))))
  (ai (a5 (PW.pt (iL (a6 lC (aD (pv 1) rfl) bW (a4 _)) (iZ (a6 jU (aD (pv 1) rfl) (cP T.JI) (a4 _)))))
   (aj (eY rfl fj T.jB (vO T) T.qf.2 (hr.mono (by first|decide|lia)) (aD (pv 1) rfl))) ba) (aj (aN (aD (pv 1) rfl)))),?_⟩
 refine(rM rfl hR.ins rfl ?_)
 refine DZ hR (hT.bt (e:=e) fun k pl hb=>.inl (HA hb)) (fun nb hk H1 x hR1 kp1 tk1=>?_) (fun nb hk=>?_)
 ·obtain⟨n,hn⟩:=vy.mp hk
  have hw:=Gv b p e
  rw[hn]at hw
  dsimp only at hw
  obtain⟨dt,ft,et,lt1,lt2,lt3,lt4,lt5⟩:=tk1
  have cl:=T.bz.cl
  have lt3':ft.lookup ("number":Str)=some (V.int (n:Int)):=by rw[lt3,hn];rfl
  have bad:∀lo,¬(1<=n/\n<=16)->nB lo K a.mC E 6 (oO K (bD 1) "place") {nx:=fun _ H'=>Q .ax H',rt:=Q} [some (.ref R.r),some (.ref x)] H1:=fun lo hn2=>by
   rw[if_neg hn2]at hw
   exact(rF rfl et cl T.gL lt4 (eA T.jB (hT.err hw)))
  refine(rF rfl et cl T.qK lt3' ⟨_,eX _ rfl ⟨rfl,eX _ rfl ?_⟩⟩)
  refine aV (fun c=>?_) (fun c=>?_)
  ·exact bK (bad _ fun z=>by have:=of_decide_eq_true c;lia)
  ·refine(rF rfl et cl T.qK lt3' ⟨_,eX _ rfl ⟨rfl,eX _ rfl ?_⟩⟩)
   refine aV (fun c2=>?_) (fun c2=>?_)
   ·exact bad _ fun z=>by have:=of_decide_eq_true c2;lia
   ·rw[if_pos (by
     have h1:¬((n:Int)<1):=fun z=>c (decide_eq_true z)
     have h2:¬((16:Int)<n):=fun z=>c2 (decide_eq_true z)
     lia)]at hw
    exact(rF rfl et cl T.qK lt3' (kk _ _ _ hw H1 _ hR1 kp1 ⟨fun _=>False,rfl,fun _ z=>z.elim⟩))
 ·refine hT.err ?_
  rw[Gv]
  cases q:ao b p with
  |num n=>exact absurd (vy.mpr ⟨n,q⟩) hk
  |bad k=>exact absurd q (nb k)
  |_=>exact fC nb
end Wale
end
section
set_option Elab.async false
set_option linter.all false
set_option maxRecDepth 100000
set_option maxHeartbeats 2000000
namespace Wale
open PySem PySem.Spec PyProof.Rows L2
open Wm
open LsWale (ascii)
variable {P:Program}{w:World}{K:PySem.W.Frag}{mg:Str->Option Value}{base:Heap}{a:Ad}
theorem dH(x y:Bytes):strOf x++strOf y=strOf (x++y):=by
 show Str.mk ((x.map UInt8.toNat).toArray++(y.map UInt8.toNat).toArray)=Str.mk ((x++y).map UInt8.toNat).toArray
 rw[List.map_append]
 simp
theorem str_len(x:Bytes):(strOf x).length=x.length:=by
 show((x.map UInt8.toNat).toArray).size=_
 simp
theorem empty_app(x:Bytes):Str.empty++strOf x=strOf x:=by
 have:Str.empty=strOf []:=rfl
 rw[this,dH];rfl
def Ii(t1:TE)(z:Str)(t2:TE):TE:=fun σ H Q=>t1 σ H fun v1 H1=>∃n1:Int,v1=.int n1/\n1.natAbs.log2<1920/\(Str.empty++Str.ofString (toString n1)).length<=sizeLine/\((Str.empty++Str.ofString (toString n1))++z).length<=sizeLine/\
 t2 σ H1 fun v2 H2=>∃n2:Int,v2=.int n2/\n2.natAbs.log2<1920/\(((Str.empty++Str.ofString (toString n1))++z)++Str.ofString (toString n2)).length<=sizeLine/\Q (.str (((Str.empty++Str.ofString (toString n1))++z)++Str.ofString (toString n2))) H2
theorem Ld{X:Cx}{e1 e2:Expr}{t1 t2:TE}{z:Str}{k:Nat}{p1 p2 p3 pos:Pos}(h1:PE X e1 t1)(h2:PE X e2 t2):
  PE X (.JoinedStr [.FormattedValue e1 (-1) none p1,.Constant (.str z) k p2,.FormattedValue e2 (-1) none p3] pos) (Ii t1 z t2):=by
 intro pins s σ H Q I h
 refine wpAny_JoinedStr ?_
 show wpAny _ _ (eval (.FormattedValue e1 (-1) none p1) X.env) _ _ s
 refine wpAny_FormattedValue_plain (aJ (h1 pins s σ H _ I h) fun u s1 hh1=>?_)
 obtain⟨v,H1,I1,r,n1,e,hd,l1,l2,q⟩:=hh1
 subst e
 obtain⟨t,rfl⟩:=r
 refine wpAny_formatField_int hd ⟨_,_,rfl,l1,?_⟩
 show wpAny _ _ (eval (.Constant (.str z) k p2) X.env) _ _ _
 refine Calls.Constant_str ⟨_,_,rfl,l2,?_⟩
 show wpAny _ _ (eval (.FormattedValue e2 (-1) none p3) X.env) _ _ _
 refine wpAny_FormattedValue_plain (aJ (h2 pins _ σ H1 _ ((I1.tok _).tok _) q) fun u s2 hh2=>?_)
 obtain⟨v,H2,I2,r,n2,e,hd,l3,q⟩:=hh2
 subst e
 obtain⟨t,rfl⟩:=r
 refine wpAny_formatField_int hd ⟨_,_,rfl,l3,l3,⟨.str _,H2,(I2.tok _).tok _,⟨_,rfl⟩,q⟩⟩
def bw:List Bytes->Bytes
 |[]=>[]
 |[x]=>x
 |x::y::r=>x++32::bw (y::r)
def dh(ps:List (List Bytes)):Bytes:=LsWale.commas (ps.map bw)
theorem vd{xs ys:List Bytes}(h1:xs≠[])(h2:ys≠[]):bw (xs++ys)=bw xs++32::bw ys:=by
 induction xs with
 |nil=>exact absurd rfl h1
 |cons x r ih=>
  cases r with
  |nil=>
   cases ys with
   |nil=>exact absurd rfl h2
   |cons y r=>rfl
  |cons z r=>
   show x++32::bw ((z::r)++ys)=(x++32::bw (z::r))++32::bw ys
   rw[ih (by simp),List.append_assoc];rfl
def oQ(a:Ad):Rep Bytes:=fun H F v s=>∃x,b7 a 18 H F v x/\s=LsWale.sumText x
def gX(a:Ad)(r:Rep Bytes):Rep (List (List Bytes)):=fun H F v ps=>∃(c dx:Addr)(lv:V),v=.ref c/\F c/\H c=some (.ins a.cD dx [("phrases",lv)])/\cE (cE r) H F lv ps
def sV(a:Ad)(r:Rep Bytes):Rep (List (List Bytes)):=fun H F v ps=>∃(c dx:Addr)(lv:V),v=.ref c/\F c/\H c=some (.ins a.cF dx [("listed",lv)])/\gX a r H F lv ps
def dm(a:Ad):Nat->Rep Bytes
 |0=>oQ a
 |n+1=>fun H F v s=>oQ a H F v s\/(∃ps,gX a (dm a n) H F v ps/\s=dh ps)\/∃ps,sV a (dm a n) H F v ps/\s=40::(dh ps++[41])
theorem yd(a:Ad):Good (oQ a):=⟨fun⟨x,h,e⟩q=>⟨x,(dE a 18).frame h q,e⟩,fun⟨x,h,e⟩m=>⟨x,(dE a 18).mono h m,e⟩⟩
theorem jS{r:Rep Bytes}(G:Good r):Good (gX a r) where
 frame:=by
  rintro H H' F v x ⟨c,dx,lv,rfl,h1,h2,h3⟩ e
  exact⟨c,dx,lv,rfl,h1,by rw[e c h1];exact h2,(bT (bT G)).frame h3 e⟩
 mono:=by
  rintro H F F' v x ⟨c,dx,lv,rfl,h1,h2,h3⟩ m
  exact⟨c,dx,lv,rfl,m c h1,h2,(bT (bT G)).mono h3 m⟩
theorem D1{r:Rep Bytes}(G:Good r):Good (sV a r) where
 frame:=by
  rintro H H' F v x ⟨c,dx,lv,rfl,h1,h2,h3⟩ e
  exact⟨c,dx,lv,rfl,h1,by rw[e c h1];exact h2,(jS G).frame h3 e⟩
 mono:=by
  rintro H F F' v x ⟨c,dx,lv,rfl,h1,h2,h3⟩ m
  exact⟨c,dx,lv,rfl,m c h1,h2,(jS G).mono h3 m⟩
theorem ck(a:Ad):∀n,Good (dm a n)
 |0=>yd a
 |n+1=>
  ⟨fun h e=>h.elim (fun z=>.inl ((yd a).frame z e)) fun h=>.inr (h.elim (fun⟨ps,z,q⟩=>.inl ⟨ps,(jS (ck a n)).frame z e,q⟩) fun⟨ps,z,q⟩=>.inr ⟨ps,(D1 (ck a n)).frame z e,q⟩),
   fun h m=>h.elim (fun z=>.inl ((yd a).mono z m)) fun h=>.inr (h.elim (fun⟨ps,z,q⟩=>.inl ⟨ps,(jS (ck a n)).mono z m,q⟩) fun⟨ps,z,q⟩=>.inr ⟨ps,(D1 (ck a n)).mono z m,q⟩)⟩
theorem Gn(n:Nat){H:Hp}{F:Fp}{v:V}{s:Bytes}(h:oQ a H F v s):dm a n H F v s:=by
 cases n with
 |zero=>exact h
 |succ n=>exact .inl h
def bG(a:Ad)(n:Nat):Rep (List Bytes):=cE (dm a n)
theorem cH(a:Ad)(n:Nat):Good (bG a n):=bT (ck a n)
theorem bU{n:Nat}{H0 H:Hp}(s:Bytes):Md (dm a n) H0 H (.str (strOf s)) s:=⟨fun _=>False,Gn n ⟨.name 0 s,BN a 18 ⟨rfl,rfl⟩,rfl⟩,fun _ z=>z.elim⟩
theorem jv{n:Nat}{H0 H:Hp}{v:V}{x:a0}(m:Md (b7 a 18) H0 H v x):Md (dm a n) H0 H v (LsWale.sumText x):=m.map fun F h=>Gn n ⟨x,h,rfl⟩
def CF(C:Addr)(f:Str):Sp:=fun vs H Q _=>∃(x dx:Addr)(u:V),vs=[.ref x,u]/\H x=some (.ins C dx [])/\∀H':Hp,H' x=some (.ins C dx [(f,u)])->(∀b o,H b=some o->b≠x->H' b=some o)->Q .ax H'
def Mi(C:Addr)(f g:Str):Sp:=fun vs H Q _=>∃(x dx:Addr)(u t:V),vs=[.ref x,u,t]/\H x=some (.ins C dx [])/\∀H':Hp,H' x=some (.ins C dx [(f,u),(g,t)])->(∀b o,H b=some o->b≠x->H' b=some o)->Q .ax H'
theorem Pu:aI ["self","phrases"] ["self","phrases"] (aB AM):=⟨rfl,rfl,rfl,by decide +kernel,rfl,by decide +kernel,by decide +kernel⟩
theorem MT:aI ["self","listed"] ["self","listed"] (aB AV):=⟨rfl,rfl,rfl,by decide +kernel,rfl,by decide +kernel,by decide +kernel⟩
theorem Jk:aI ["self","phrase","body"] ["self","phrase","body"] (aB wy):=⟨rfl,rfl,rfl,by decide +kernel,rfl,by decide +kernel,by decide +kernel⟩
theorem xT(T:Tx P w K mg a):ay P w K mg base aW 1 a.lU a.m7 ["self","phrases"] (CF a.cD "phrases"):=by
 refine T.uF.1.ok Pu (fun vs H Q E h=>?_) (fun cdv A outer s H vs Q E hr h=>?_)
 ·obtain⟨_,_,_,rfl,_⟩:=h;rfl
 obtain⟨x,dx,u,rfl,hx,q⟩:=h
 refine⟨_,aj (c6 (pv 0) (pv 1) rfl),?_⟩
 exact(eX _ rfl (eX _ rfl ⟨x,_,dx,eX _ rfl ⟨hx,T.ip.cl,T.Ge,(by show 0<1000;decide),q _ aw fun b o e hb=>by rw[ak hb];exact e⟩⟩))
theorem Jh(T:Tx P w K mg a):ay P w K mg base aW 1 a.kl a.nj ["self","listed"] (CF a.cF "listed"):=by
 refine T.Cz.1.ok MT (fun vs H Q E h=>?_) (fun cdv A outer s H vs Q E hr h=>?_)
 ·obtain⟨_,_,_,rfl,_⟩:=h;rfl
 obtain⟨x,dx,u,rfl,hx,q⟩:=h
 refine⟨_,aj (c6 (pv 0) (pv 1) rfl),?_⟩
 exact(eX _ rfl (eX _ rfl ⟨x,_,dx,eX _ rfl ⟨hx,T.ll.cl,T.BR,(by show 0<1000;decide),q _ aw fun b o e hb=>by rw[ak hb];exact e⟩⟩))
theorem jw(T:Tx P w K mg a):ay P w K mg base aW 1 a.lI a.nW ["self","phrase","body"] (Mi a.dR "phrase" "body"):=by
 refine T.iS.1.ok Jk (fun vs H Q E h=>?_) (fun cdv A outer s H vs Q E hr h=>?_)
 ·obtain⟨_,_,_,_,rfl,_⟩:=h;rfl
 obtain⟨x,dx,u,t,rfl,hx,q⟩:=h
 refine⟨_,ai (c6 (pv 0) (pv 1) rfl) (aj (c6 (pv 0) (pv 2) rfl)),?_⟩
 exact(eX _ rfl (eX _ rfl ⟨x,_,dx,eX _ rfl ⟨hx,T.c9.cl,T.wI,(by show 0<1000;decide),eX _ rfl (eX _ rfl ⟨x,_,dx,eX _ rfl ⟨aw,T.c9.cl,T.tZ,(by show 1<1000;decide),q _ aw fun b o e hb=>by rw[ak hb,ak hb];exact e⟩⟩)⟩⟩))
theorem Md.listed{r:Rep Bytes}(G:Good r){H0 H H':Hp}{u:V}{ps:List (List Bytes)}{x dx:Addr}(m:Md (cE (cE r)) H0 H u ps)(g:cp H0 H)(s:aK H H')(n:H x=none)(e:H' x=some (.ins a.cD dx [("phrases",u)])):Md (gX a r) H0 H' (.ref x) ps:=by
 obtain⟨F,h,sn⟩:=m.same (bT (bT G)) s
 refine⟨fun b=>b=x\/F b,⟨x,dx,u,rfl,.inl rfl,e,(bT (bT G)).mono h fun b hb=>.inr hb⟩,fun b hb=>?_⟩
 rcases hb with rfl|hb
 ·exact⟨g.none n,_,e⟩
 ·exact sn b hb
theorem Md.br{r:Rep Bytes}(G:Good r){H0 H H':Hp}{u:V}{ps:List (List Bytes)}{x dx:Addr}(m:Md (gX a r) H0 H u ps)(g:cp H0 H)(s:aK H H')(n:H x=none)(e:H' x=some (.ins a.cF dx [("listed",u)])):Md (sV a r) H0 H' (.ref x) ps:=by
 obtain⟨F,h,sn⟩:=m.same (jS G) s
 refine⟨fun b=>b=x\/F b,⟨x,dx,u,rfl,.inl rfl,e,(jS G).mono h fun b hb=>.inr hb⟩,fun b hb=>?_⟩
 rcases hb with rfl|hb
 ·exact⟨g.none n,_,e⟩
 ·exact sn b hb
end Wale
end
section
set_option Elab.async false
set_option linter.all false
set_option maxRecDepth 100000
set_option maxHeartbeats 2000000
namespace Wale
open PySem PySem.Spec PyProof.Rows L2
open Wm
open LsWale (ascii Fault eatSign eatWord eatOpen anyName newName oldName markName holdName wanted isName)
variable {P:Program}{w:World}{K:PySem.W.Frag}{mg:Str->Option Value}{base:Heap}{a:Ad}
@[irreducible] def jY{α:Type}(K:PySem.W.Frag)(a:Ad)(m:Nat)(ρ:Rep α)(S:Nat->ah->Option (Except Fault (α×ah))):Sp:=fun vs H Q E=>∃(b:Bytes)(R:RA)(p d:Nat)(e:aC)(g:Except Fault (α×ah)),vs=[.ref R.r]/\aq a K b R p d (lst e) H/\d<=8/\8<d+m/\
 S d (ae b p e)=some g/\Tl K a E g/\∀x p' e',g=.ok (x,ae b p' e')->∀(H':Hp)(v:V),aq a K b R p' d (lst e') H'->aH R H H'->Md ρ H H' v x->Q v H'
theorem AA{α:Type}{m:Nat}{ρ:Rep α}{S:Nat->ah->Option (Except Fault (α×ah))}(vs:List V)(H:Hp)(Q:VK)(E:XK)(h:jY K a m ρ S vs H Q E):vs.length=1:=by
 unfold jY at h
 obtain⟨_,_,_,_,_,_,rfl,_⟩:=h;rfl
theorem yt{α:Type}{m:Nat}{ρ:Rep α}{S:Nat->ah->Option (Except Fault (α×ah))}{vs:List V}{H:Hp}{Q:VK}{E:XK}(h:jY K a m ρ S vs H Q E):∃(b:Bytes)(R:RA)(p d:Nat)(e:aC)(g:Except Fault (α×ah)),vs=[.ref R.r]/\aq a K b R p d (lst e) H/\d<=8/\8<d+m/\
 S d (ae b p e)=some g/\Tl K a E g/\∀x p' e',g=.ok (x,ae b p' e')->∀(H':Hp)(v:V),aq a K b R p' d (lst e') H'->aH R H H'->Md ρ H H' v x->Q v H':=by unfold jY at h;exact h
abbrev t9{α:Type}(P:Program)(w:World)(K:PySem.W.Frag)(mg:Str->Option Value)(base:Heap)(a:Ad)(k:Nat)(f:Addr)(fd:FuncData)(m:Nat)(ρ:Rep α)(S:Nat->ah->Option (Except Fault (α×ah))):Prop:=ay P w K mg base (bh P w) k f fd ["reader"] (jY K a m ρ S)
section
variable {α β:Type}{b:Bytes}{R:RA}{p d m:Nat}{L:NL}{e:aC}{H:Hp}{Q:VK}{E:XK}{r:Except Fault (α×ah)}
theorem wF{ρ:Rep β}{S:Nat->ah->Option (Except Fault (β×ah))}{g:Except Fault (β×ah)}{f:β×ah->Except Fault (α×ah)}(hR:aq a K b R p d (lst e) H)(hd:d<=8)(hm:8<d+m)(hg:S d (ae b p e)=some g)(hT:Tl K a E r)(hr:r=g>>=f)(hB:∀x s k pl,HB s k pl->bJ (f (x,s)) k pl)
  (kk:∀x p' e',g=.ok (x,ae b p' e')->r=f (x,ae b p' e')->∀(H':Hp)(v:V),aq a K b R p' d (lst e') H'->aH R H H'->Md ρ H H' v x->Q v H'):jY K a m ρ S [.ref R.r] H Q E:=by
 unfold jY
 exact⟨b,R,p,d,e,g,rfl,hR,hd,hm,hg,fun k pl h=>hT k pl (by rw[hr];exact h.bind fun x s hb=>hB x s k pl hb),fun x p' e' hS=>kk x p' e' hS (by rw[hr,hS];rfl)⟩
end
theorem fF{b:Bytes}{p:Nat}{z:Str}{c:String}(e:aC)(hz:z=strOf (ascii c):=by decide +kernel)(hc:iN c=true:=by decide +kernel):decide (bo (ao b p)=z)=(ae b p e).isWord c:=by
 rw[Bool.eq_iff_iff,decide_eq_true_eq]
 exact(eT hz).trans (kP b p e hc)
theorem mr{s:ah}{x y:String}(h:s.isWord x=true)(n:ascii x≠ascii y):s.isWord y=false:=by
 unfold LsWale.St.isWord at h ⊢
 cases q:s.ts with
 |nil=>rfl
 |cons t r=>
  rw[q]at h
  obtain⟨pl,tk⟩:=t
  cases tk with
  |word z=>
   have h:(z==ascii x)=true:=h
   rw[beq_iff_eq]at h
   show(z==ascii y)=false
   rw[h]
   exact beq_eq_false_iff_ne.mpr n
  |_=>rfl
theorem Aj{b:Bytes}{p:Nat}{e:aC}(h:¬cO (ao b p)=true)(x:String):(ae b p e).isWord x=false:=Bool.eq_false_iff.mpr fun z=>h (jV z)
theorem map_bind{α β:Type}(r:Except Fault α)(f:α->β):r.map f=r>>=fun x=>.ok (f x):=by cases r<;>rfl
def lH{α β:Type}(r:Rep β)(f:α->β):Rep α:=fun H F v x=>r H F v (f x)
def eR(a:Ad)(n:Nat):Rep Bytes:=fun H F v s=>∃ph,bG a n H F v ph/\ph≠[]/\ph.length<=4/\bw ph=s
theorem rA{n:Nat}{H0 H:Hp}{l:Addr}{v:V}{s:Bytes}(m:Md (dm a n) H0 H v s)(hl:H l=none)(g:cp H0 H):Md (eR a n) H0 (upd H l (.lst [v])) (.ref l) s:=
 (aM.list (ck a n) (aM.cons (ck a n) m aM.nil) hl g).map fun F h=>⟨[s],h,by simp,(by show 1<=4;decide),rfl⟩
theorem sv{n:Nat}{H0 H:Hp}{l:Addr}{v u:V}{s t:Bytes}(m:Md (dm a n) H0 H v s)(m':Md (dm a n) H0 H u t)(hl:H l=none)(g:cp H0 H):Md (eR a n) H0 (upd H l (.lst [v,u])) (.ref l) (s++32::t):=
 (aM.list (ck a n) (aM.cons (ck a n) m (aM.cons (ck a n) m' aM.nil)) hl g).map fun F h=>⟨[s,t],h,by simp,(by show 2<=4;decide),rfl⟩
theorem gd{b:Bytes}{p:Nat}{e:aC}{c:String}(h:(ae b p e).isWord c=true)(hc:iN c=true:=by decide +kernel):bo (ao b p)=strOf (ascii c):=by rw[mX,(kP b p e hc).mpr h]
def qQ(_:Nat)(s:ah):Option (Except Fault ((Bool×Nat×Nat)×ah)):=if(s.isWord "cl"||s.isWord "cr")=true then some (LsWale.wideAt s.next>>=fun n=>eatSign '/' n.2>>=fun t=>LsWale.wideAt t>>=fun m=>.ok ((s.isWord "cr",n.1,m.1),m.2))else none
def pq(x:Bool×Nat×Nat):Bytes:=LsWale.unitText (.cable x.1 x.2.1 x.2.2)
theorem vE:aI ["reader","word","left","right"] ["reader"] (aB xB):=⟨rfl,rfl,rfl,by decide +kernel,rfl,by decide +kernel,by decide +kernel⟩
theorem kF{α:Type}{s:ah}{k pl:Nat}{c:Char}{f:ah->Except Fault (α×ah)}(h:HB s k pl):bJ (eatSign c s>>=f) k pl:=by rw[vM h];exact .inl rfl
theorem uC{b:Bytes}{p:Nat}{e:aC}{x y:String}(h:((ae b p e).isWord x||(ae b p e).isWord y)=true):cO (ao b p)=true:=by
 rcases(Bool.or_eq_true _ _).mp h with h|h
 ·exact jV h
 ·exact jV h
theorem Bb{s t:ah}{n:Nat}(h:LsWale.wideAt s=.ok (n,t)):n<=16:=by
 unfold LsWale.wideAt at h
 split at h
 ·split at h
  ·rename_i q
   cases h
   exact q.2
  ·cases h
 ·exact absurd h (by unfold wanted;split<;>exact fun z=>nomatch z)
theorem CA:∀n,n<=16->(LsWale.decimal n).length<=2:=by decide +kernel
theorem Mb(T:Tx P w K mg a)(N:Nat):t9 P w K mg base a 11 a.rR a.pW 9 (lH (eR a N) pq) qQ:=by
 refine aE.bx (k:=10) T.GW.fn vE AA (fun cdv A outer s H vs Q E hr h=>?_)
 obtain⟨b,R,p,d,e,g,rfl,hR,hd,hm,hg,hT,kk⟩:=yt h
 have C:=T.bE.cl
 refine⟨_,ai (aY (i:=1) vE.nd rfl (Or.inl rfl) (aD (cx (pv 0) C T.cT.mt (jf T) (hr.mono (by first|decide|lia)) T.cT.bd .nil au) rfl)) (ai (aY (i:=2) vE.nd rfl (Or.inl rfl) (aQ T.yH (C9 T) hr au (aa (pv 0) ag)))
  (ai (a3 (aZ (pv 0) C T.cQ.mt (ir T) (hr.mono (by first|decide|lia)) T.cQ.bd .nil au (aa aP ag))) (ai (aY (i:=3) vE.nd rfl (Or.inl rfl) (aQ T.yH (C9 T) hr au (aa (pv 0) ag)))
  (aj (aN (bH (aa (pv 1) (aa (Ld (pv 2) (pv 3)) ag)))))))),?_⟩
 unfold qQ at hg
 by_cases c:((ae b p e).isWord "cl"||(ae b p e).isWord "cr")=true
 ·rw[if_pos c]at hg
  have e0:=(Option.some.inj hg).symm
  rw[cK (uC c)]at e0
  have hw:bo (ao b p)=strOf (ascii (if(ae b p e).isWord "cr"=true then "cr" else "cl")):=by
   by_cases c2:(ae b p e).isWord "cr"=true
   ·rw[if_pos c2];exact gd c2
   ·rw[if_neg c2];exact gd (((Bool.or_eq_true _ _).mp c).resolve_right c2)
  refine(rM rfl hR.ins rfl ?_)
  refine iK hR (uv (uC c)) fun H1 y hR1 kp1 tk1=>?_
  obtain⟨dt,ft,et,lt1,lt2,lt3,lt4,lt5⟩:=tk1
  rw[hw]at lt2
  refine(rG rfl et T.bz.cl T.bZ lt2 (eX _ rfl ?_))
  refine cf (S:=fun _=>LsWale.wideAt) hR1 hd hm hT e0 (fun x s k pl hb=>kF hb) fun n p2 e2 hS e3 H2 v2 hR2 kp2 md2=>?_
  obtain⟨_,ev2,-⟩:=md2
  cases (show v2=.int (n:Int)from ev2)
  refine(rM rfl hR2.ins rfl ?_)
  refine gD hR2 hT e3 (k:=fun e4 H3 y hR3 kp3 tk3=>(eX _ rfl ?_))
  refine cf (S:=fun _=>LsWale.wideAt) hR3 hd hm hT e4 (fun x s k pl hb=>dD hb) fun n' p4 e5 hS' e6 H4 v4 hR4 kp4 md4=>?_
  obtain⟨_,ev4,-⟩:=md4
  cases (show v4=.int (n':Int)from ev4)
  have h16:=Bb hS
  have h16':=Bb hS'
  have d1:=CA n h16
  have d2:=CA n' h16'
  have sz:sizeLine=16777216:=by decide
  have es:(Str.empty++Str.ofString (toString (n:Int)))=strOf (LsWale.decimal n):=by rw[lZ,empty_app]
  have eslash:("/":Str)=strOf [47]:=by decide +kernel
  refine(eX _ rfl (eX _ rfl (eX _ rfl ⟨zH (by lia),?_,?_,eX _ rfl (eX _ rfl ⟨zH (by lia),?_,(by show 2<=sizeLine;decide),fun l hl=>?_⟩)⟩)))
  ·rw[es,str_len];lia
  ·rw[es,eslash,dH,str_len,List.length_append];simp only[List.length_cons,List.length_nil];lia
  ·rw[es,eslash,dH,lZ,dH,str_len];simp only[List.length_append,List.length_cons,List.length_nil];lia
  have kp:=((kp1.trans kp2).trans kp3).trans kp4
  refine kk _ _ _ e6 _ _ (hR4.same (aO hl)) (kp.trans (bq (aO hl))) ?_
  rw[es,eslash,dH,lZ,dH]
  have m:=sv (n:=N) (bU (a:=a) (H0:=H) (H:=H4) (ascii (if(ae b p e).isWord "cr"=true then "cr" else "cl"))) (bU (LsWale.decimal n++[47]++LsWale.decimal n')) hl (kp.grow hR4.cells)
  refine m.map fun F q=>?_
  show eR a N _ F _ (pq ((ae b p e).isWord "cr",n,n'))
  have et:pq ((ae b p e).isWord "cr",n,n')=ascii (if(ae b p e).isWord "cr"=true then "cr" else "cl")++32::(LsWale.decimal n++[47]++LsWale.decimal n'):=by
   show ascii (if(ae b p e).isWord "cr"=true then "cr " else "cl ")++(LsWale.decimal n++47::LsWale.decimal n')=_
   rw[List.append_assoc (LsWale.decimal n)]
   cases (ae b p e).isWord "cr"<;>rfl
  rw[et]
  exact q
 ·rw[if_neg c]at hg;cases hg
def zB(_:Nat)(s:ah):Option (Except Fault (LsWale.Lone×ah)):=LsWale.loneAt s
theorem Oj{b:Bytes}{p:Nat}{e:aC}{g:Except Fault (LsWale.Lone×ah)}(h:LsWale.loneAt (ae b p e)=some g):cO (ao b p)=true:=by
 by_cases c:cO (ao b p)=true
 ·exact c
 ·unfold LsWale.loneAt at h
  simp only[Aj c]at h
  cases h
theorem B2:aI ["reader","word"] ["reader"] (aB xR):=⟨rfl,rfl,rfl,by decide +kernel,rfl,by decide +kernel,by decide +kernel⟩
theorem Pl{b:Bytes}{p:Nat}(e:aC):dY (.str (bo (ao b p))) [.str "mark",.str "pass",.str "clear"]=((ae b p e).isWord "mark"||((ae b p e).isWord "pass"||((ae b p e).isWord "clear"||false))):=
 in_words (b:=b) (p:=p) (e:=e) ["mark","pass","clear"] (l:=["mark","pass","clear"]) (by decide +kernel) (by decide +kernel)
theorem Oh(T:Tx P w K mg a)(N:Nat):t9 P w K mg base a 11 a.pB a.pj 9 (lH (eR a N) LsWale.loneText) zB:=by
 refine aE.bx (k:=10) T.EF.fn B2 AA (fun cdv A outer s H vs Q E hr h=>?_)
 obtain⟨b,R,p,d,e,g,rfl,hR,hd,hm,hg,hT,kk⟩:=yt h
 have C:=T.bE.cl
 refine⟨_,ai (aY (i:=1) B2.nd rfl (Or.inl rfl) (aD (cx (pv 0) C T.cT.mt (jf T) (hr.mono (by first|decide|lia)) T.cT.bd .nil au) rfl))
  (ai (a5 (a6 cq (pv 1) aP (a4 _)) (aj (aN (bH (aa (pv 1) (aa ((aZ (pv 0) C T.ji.mt (uL T) (hr.mono (by first|decide|lia)) T.ji.bd .nil au (aa (bB T.D0) ag))) ag))))) ba)
  (ai (a5 (a6 cq (pv 1) aP (a4 _)) (aj (aN (bH (aa (pv 1) (aa ((aZ (pv 0) C T.iI.mt (vc T) (hr.mono (by first|decide|lia)) T.iI.bd .nil au (aa (bB T.ya) ag))) ag))))) ba)
  (ai (a5 (a6 q5 (pv 1) (kO (aa aP (aa aP (aa aP ag)))) (by rfl)) (aj (aN (bH (aa (pv 1) (aa ((aZ (pv 0) C T.ji.mt (uL T) (hr.mono (by first|decide|lia)) T.ji.bd .nil au (aa (bB T.G8) ag))) ag))))) ba)
  (aj (aN (bH (aa (pv 1) ag))))))),?_⟩
 have ht:=Oj hg
 refine(rM rfl hR.ins rfl ?_)
 refine iK hR (uv ht) fun H1 x hR1 kp1 tk1=>?_
 obtain⟨dt,ft,et,lt1,lt2,lt3,lt4,lt5⟩:=tk1
 refine(rG rfl et T.bz.cl T.bZ lt2 (eX _ rfl ⟨rfl,eX _ rfl ?_⟩))
 unfold zB LsWale.loneAt at hg
 rw[cR,fF (c:="take") e]
 rw[cK ht]at hg
 have fin2:∀{c:String}{y:Bytes}{z:LsWale.Lone}{H2:Hp}{p':Nat}{e':aC},(ae b p e).isWord c=true->iN c=true->g=.ok (z,ae b p' e')->LsWale.loneText z=ascii c++32::y->aq a K b R p' d (lst e') H2->aH R H H2->∀l,H2 l=none->
   Q (.ref l) (upd H2 l (.lst [.str (bo (ao b p)),.str (strOf y)])):=fun{c y z H2 p' e'}hc hw hgz ht hR2 kp2 l hl=>by
  refine kk _ _ _ hgz _ _ (hR2.same (aO hl)) (kp2.trans (bq (aO hl))) ?_
  rw[gd hc hw]
  refine(sv (n:=N) (bU (a:=a) (H0:=H) (H:=H2) (ascii c)) (bU y) hl (kp2.grow hR2.cells)).map fun F q=>?_
  show eR a N _ F _ (LsWale.loneText z)
  rw[ht];exact q
 have fin1:∀{c:String}{z:LsWale.Lone}{H2:Hp}{p':Nat}{e':aC},(ae b p e).isWord c=true->iN c=true->g=.ok (z,ae b p' e')->LsWale.loneText z=ascii c->aq a K b R p' d (lst e') H2->aH R H H2->∀l,H2 l=none->
   Q (.ref l) (upd H2 l (.lst [.str (bo (ao b p))])):=fun{c z H2 p' e'}hc hw hgz ht hR2 kp2 l hl=>by
  refine kk _ _ _ hgz _ _ (hR2.same (aO hl)) (kp2.trans (bq (aO hl))) ?_
  rw[gd hc hw]
  refine(rA (n:=N) (bU (a:=a) (H0:=H) (H:=H2) (ascii c)) hl (kp2.grow hR2.cells)).map fun F q=>?_
  show eR a N _ F _ (LsWale.loneText z)
  rw[ht];exact q
 refine aV (fun c=>?_) (fun c=>?_)
 ·rw[if_pos c,map_bind]at hg
  refine(eX _ rfl (rM rfl hR1.ins rfl ?_))
  exact Gq hR1 hT (Option.some.inj hg).symm fun y hy H2 hR2 kp2=>⟨(by show 2<=sizeLine;decide),fin2 c (by decide +kernel) hy rfl hR2 (kp1.trans kp2)⟩
 rw[if_neg c]at hg
 refine(eX _ rfl ⟨rfl,eX _ rfl ?_⟩)
 rw[cR,fF (c:="yarn") e]
 refine aV (fun c=>?_) (fun c=>?_)
 ·rw[if_pos c,map_bind]at hg
  refine(eX _ rfl (rM rfl hR1.ins rfl ?_))
  exact uE (k:=.yarns) hR1 rfl hT (Option.some.inj hg).symm rfl fun y hy H2 hR2 kp2=>⟨(by show 2<=sizeLine;decide),fin2 c (by decide +kernel) hy rfl hR2 (kp1.trans kp2)⟩
 rw[if_neg c]at hg
 refine(eX _ rfl ⟨(by show 3<=sizeLine;decide),fun q hq=>?_⟩)
 refine⟨q,eX _ rfl ⟨.inr (.inl (.inl aw)),rfl,rfl,eX _ rfl ?_⟩⟩
 have hR2:=hR1.same (aO (o:=.tup [.str "mark",.str "pass",.str "clear"]) hq)
 have kp2:aH R H (upd H1 q (.tup [.str "mark",.str "pass",.str "clear"])):=kp1.trans (bq (aO hq))
 rw[if_neg Bool.false_ne_true,Pl e]
 by_cases c1:(ae b p e).isWord "mark"=true
 ·rw[if_pos c1,map_bind]at hg
  rw[c1]
  refine bK (eX _ rfl (rM rfl hR2.ins rfl ?_))
  exact uV hR2 hT (Option.some.inj hg).symm fun y hy H3 hR3 kp3=>⟨(by show 2<=sizeLine;decide),fin2 c1 (by decide +kernel) hy rfl hR3 (kp2.trans kp3)⟩
 rw[if_neg c1]at hg
 rw[Bool.eq_false_iff.mpr c1]
 by_cases c2:(ae b p e).isWord "pass"=true
 ·rw[if_pos c2,map_bind]at hg
  rw[c2]
  refine bK (eX _ rfl (rM rfl hR2.ins rfl ?_))
  exact uV hR2 hT (Option.some.inj hg).symm fun y hy H3 hR3 kp3=>⟨(by show 2<=sizeLine;decide),fin2 c2 (by decide +kernel) hy rfl hR3 (kp2.trans kp3)⟩
 rw[if_neg c2]at hg
 rw[Bool.eq_false_iff.mpr c2]
 by_cases c3:(ae b p e).isWord "clear"=true
 ·rw[if_pos c3,map_bind]at hg
  rw[c3]
  refine bK (eX _ rfl (rM rfl hR2.ins rfl ?_))
  exact uV hR2 hT (Option.some.inj hg).symm fun y hy H3 hR3 kp3=>⟨(by show 2<=sizeLine;decide),fin2 c3 (by decide +kernel) hy rfl hR3 (kp2.trans kp3)⟩
 rw[if_neg c3]at hg
 rw[Bool.eq_false_iff.mpr c3]
 refine cw ?_
 by_cases c4:(ae b p e).isWord "turn"=true
 ·rw[if_pos c4]at hg
  exact(eX _ rfl ⟨(by show 1<=sizeLine;decide),fin1 c4 (by decide +kernel) (Option.some.inj hg).symm rfl hR2 kp2⟩)
 rw[if_neg c4]at hg
 by_cases c5:(ae b p e).isWord "fasten"=true
 ·rw[if_pos c5]at hg
  exact(eX _ rfl ⟨(by show 1<=sizeLine;decide),fin1 c5 (by decide +kernel) (Option.some.inj hg).symm rfl hR2 kp2⟩)
 rw[if_neg c5]at hg
 cases hg
def fX(d:Nat)(s:ah):Except Fault (LsWale.Reach×ah):=
 if s.isWord "end"=true then .ok (.to_ .row,s.next)
 else if s.isWord "last"=true then(bg .sum d s.next>>=fun x=>.ok (.to_ (.last x.1),x.2))
 else(eatWord "mark" s>>=fun t=>markName t>>=fun x=>.ok (.to_ (.mark x.1),x.2))
theorem Fd{s:ah}{k pl:Nat}(h:HB s k pl)(d:Nat):fX d s=.error ⟨k,pl⟩:=by
 unfold fX
 rw[if_neg (by rw[gY h];decide),if_neg (by rw[gY h];decide),BD h];rfl
def GJ:LsWale.Reach->Bytes
 | .to_ .row=>ascii "end"
 | .to_ (.last x)=>ascii "last"++32::LsWale.sumText x
 | .to_ (.mark n)=>ascii "mark"++32::n
 |_=>[]
theorem JB:aI ["reader"] ["reader"] (aB zU):=⟨rfl,rfl,rfl,by decide +kernel,rfl,by decide +kernel,by decide +kernel⟩
theorem Lo:("end":Str)=strOf (ascii "end"):=by decide +kernel
theorem LX:("last":Str)=strOf (ascii "last"):=by decide +kernel
theorem Oa:("mark":Str)=strOf (ascii "mark"):=by decide +kernel
theorem IH(T:Tx P w K mg a)(N:Nat):cV P w K mg base a 38 a.px a.o8 9 (lH (eR a N) GJ) fX:=by
 refine aE.bx (k:=37) T.FE.fn JB fh (fun cdv A outer s H vs Q E hr h=>?_)
 obtain⟨b,R,p,d,e,rfl,hR,hd,hm,hT,kk⟩:=fR h
 have C:=T.bE.cl
 refine⟨_,ai (a5 (cX (aZ (pv 0) C T.d5.mt (jI T) (hr.mono (by first|decide|lia)) T.d5.bd .nil au (aa aP ag))) (aj (aN (bH (aa aP (aa (aQ T.iH (jD T 9) hr au (aa (pv 0) ag)) ag))))) ba)
  (ai (a5 (cX (aZ (pv 0) C T.d5.mt (jI T) (hr.mono (by first|decide|lia)) T.d5.bd .nil au (aa aP ag))) (aj (aN (bH (aa aP (aa ((aZ (pv 0) C T.ji.mt (uL T) (hr.mono (by first|decide|lia)) T.ji.bd .nil au (aa (bB T.G8) ag))) ag))))) ba) (ai (a3 (aZ (pv 0) C T.cQ.mt (ir T) (hr.mono (by first|decide|lia)) T.cQ.bd .nil au (aa aP ag))) (aj (aN (bH (aa aP ag)))))),?_⟩
 refine(rM rfl hR.ins rfl ?_)
 refine qG (c:="last") (e:=e) hR hT (fun k pl hb=>.inl (Fd hb d)) (fun c H1 hR1 kp1=>?_) (fun c nb H1 hR1 kp1=>?_)
 ·have e1:fX d (ae b p e)=(bg .sum d (ae b (az b p) e)>>=fun x=>.ok (.to_ (.last x.1),x.2)):=by
   unfold fX
   rw[if_neg (by rw[mr c (y:="end") (by decide +kernel)];decide),if_pos c,cK (jV c)]
  refine(eX _ rfl (bK (eX _ rfl ?_)))
  refine cf hR1 hd hm hT e1 (fun x s k pl hb=>dD hb) fun x p2 e2 hS e3 H2 v2 hR2 kp2 md2=>⟨(by show 2<=sizeLine;decide),fun l hl=>?_⟩
  have kp:=kp1.trans kp2
  refine kk _ _ _ e3 _ _ (hR2.same (aO hl)) (kp.trans (bq (aO hl))) ?_
  rw[LX]
  exact sv (bU _) (jv (md2.old (kp1.grow hR1.cells))) hl (kp.grow hR2.cells)
 refine(eX _ rfl (cw (rM rfl hR1.ins rfl ?_)))
 refine qG (c:="mark") (e:=e) hR1 hT (fun k pl hb=>.inl (Fd hb d)) (fun c2 H2 hR2 kp2=>?_) (fun c2 nb H2 hR2 kp2=>?_)
 ·have e1:fX d (ae b p e)=(markName (ae b (az b p) e)>>=fun x=>.ok (.to_ (.mark x.1),x.2)):=by
   unfold fX eatWord
   rw[if_neg (by rw[mr c2 (y:="end") (by decide +kernel)];decide),if_neg (by rw[c];decide),if_pos c2,cK (jV c2)]
   rfl
  refine(eX _ rfl (bK (rM rfl hR2.ins rfl ?_)))
  refine uV hR2 hT e1 fun y hy H3 hR3 kp3=>⟨(by show 2<=sizeLine;decide),fun l hl=>?_⟩
  have kp:=(kp1.trans kp2).trans kp3
  refine kk _ _ _ hy _ _ (hR3.same (aO hl)) (kp.trans (bq (aO hl))) ?_
  rw[Oa]
  exact sv (bU _) (bU y) hl (kp.grow hR3.cells)
 have e1:fX d (ae b p e)=(eatWord "end" (ae b p e)>>=fun t=>.ok (.to_ .row,t)):=by
  unfold fX eatWord
  have c2':¬(ae b p e).isWord "mark"=true:=by rw[c2];decide
  rw[if_neg c2']
  by_cases c3:(ae b p e).isWord "end"=true
  ·rw[if_pos c3,if_pos c3];rfl
  ·rw[if_neg c3,if_neg c3,if_neg (by rw[c];decide),fC nb];rfl
 refine(eX _ rfl (cw (rM rfl hR2.ins rfl ?_)))
 refine Ej hR2 hT e1 (k:=fun e3 H3 x hR3 kp3 tk3=>⟨(by show 1<=sizeLine;decide),fun l hl=>?_⟩)
 have kp:=(kp1.trans kp2).trans kp3
 refine kk _ _ _ e3 _ _ (hR3.same (aO hl)) (kp.trans (bq (aO hl))) ?_
 rw[Lo]
 exact rA (bU _) hl (kp.grow hR3.cells)
end Wale
end
section
set_option Elab.async false
set_option linter.all false
set_option maxRecDepth 100000
set_option maxHeartbeats 2000000
namespace Wale
open PySem PySem.Spec PyProof.Rows L2
open Wm
open LsWale (ascii Fault eatSign eatWord eatOpen anyName newName oldName markName holdName wanted isName PLAINS)
variable {P:Program}{w:World}{K:PySem.W.Frag}{mg:Str->Option Value}{base:Heap}{a:Ad}
def ik(d:Nat)(s:ah):Except Fault ((LsWale.Reach->LsWale.Items->LsWale.Items)×ah):=
 if s.isSign '('=true then(eatOpen '(' d s>>=fun t=>cU (d+1) t>>=fun l=>eatSign ')' l.2>>=fun u=>.ok (LsWale.Items.group s.place l.1,u))
 else(LsWale.unitAt s>>=fun u=>.ok (LsWale.Items.one s.place u.1,u.2))
theorem Nm{d:Nat}{s:ah}(h:LsWale.loneAt s=none):fK d s=ik d s>>=fun u=>jq d u.2>>=fun r=>.ok (u.1 r.1,r.2):=by
 unfold fK gw ik
 rw[h]
 dsimp only
 by_cases c:s.isSign '('=true
 ·rw[if_pos c,if_pos c];simp only[bN];rfl
 ·rw[if_neg c,if_neg c];simp only[bN];rfl
theorem Fb{s:ah}{k pl:Nat}(h:HB s k pl)(d:Nat):ik d s=.error ⟨k,pl⟩:=by
 unfold ik
 rw[if_neg (by rw[f9 h];decide),B4 h];rfl
theorem Oc(b:Bytes)(p:Nat):dY (.str (bo (ao b p))) ((["k","p","ktbl","ptbl","yo","k2tog","k3tog","ssk","sssk","p2tog","ssp","cdd","kfb","pfb","kp","m1l","m1r","sl","slf","pso","even","co","bo"]:List Str).map V.str)=PLAINS.contains (fU (ao b p)):=by
 rw[CM,mX,oh]
theorem Ly:∀x∈PLAINS,∃c r,x=c::r/\LsWale.isLetter c=true:=by
 intro x hx
 have h:PLAINS.all (fun x=>match x with|c::_=>LsWale.isLetter c|[]=>false)=true:=by decide +kernel
 have:=List.all_eq_true.mp h x hx
 cases x with
 |nil=>cases this
 |cons c r=>exact⟨c,r,rfl,this⟩
theorem LC{b:Bytes}{p:Nat}(h:PLAINS.contains (fU (ao b p))=true):ao b p=.word (fU (ao b p)):=by
 obtain⟨c,r,e,l⟩:=Ly _ (by simpa using h)
 exact(B9 e l (yh b p)).mp rfl
theorem Fs(x:Bytes):(PLAINS.findIdx? fun z=>z==x).isSome=PLAINS.contains x:=by
 rw[List.findIdx?_isSome,Bool.eq_iff_iff]
 simp
theorem o7{b:Bytes}{p:Nat}{e:aC}{x:Bytes}(h:ao b p=.word x):LsWale.unitAt (ae b p e)=match PLAINS.findIdx? fun z=>z==x with
  |some k=>.ok (.plain k,ae b (az b p) e)
  |none=>if((ae b p e).isWord "cl"||(ae b p e).isWord "cr")=true then(LsWale.wideAt (ae b (az b p) e)>>=fun n=>eatSign '/' n.2>>=fun t=>LsWale.wideAt t>>=fun m=>.ok (.cable ((ae b p e).isWord "cr") n.1 m.1,m.2))
   else if(ae b p e).isWord "hold"=true then(holdName (ae b (az b p) e)>>=fun x=>.ok (.hold x.1,x.2))
   else(oldName e.words (ae b p e)>>=fun x=>.ok (.word x.1,x.2)):=by
 have hn:=cK (b:=b) (p:=p) (e:=e) (by rw[h];rfl)
 unfold LsWale.unitAt
 rw[d9,h,hn]
 rfl
def j4(rest:LsWale.Items):Bytes:=if rest=.nil then[]else ascii ", "++LsWale.itemsText rest
def wq(a:Ad)(n:Nat):Rep (LsWale.Reach->LsWale.Items->LsWale.Items):=fun H F v k=>∃s,eR a n H F v s/\(∀r rest,LsWale.itemsText (k r rest)=s++(LsWale.reachText r++j4 rest))/\∀r rest,k r rest≠ .nil
def qB(a:Ad)(n:Nat):Rep LsWale.Items:=fun H F v it=>∃ps,gX a (dm a n) H F v ps/\dh ps=LsWale.itemsText it
theorem DB(a:Ad)(n:Nat):Good (qB a n):=⟨fun⟨ph,h,q⟩e=>⟨ph,(jS (ck a n)).frame h e,q⟩,fun⟨ph,h,q⟩m=>⟨ph,(jS (ck a n)).mono h m,q⟩⟩
theorem Hq{y:Bytes}{j:Nat}(h:(PLAINS.findIdx? fun z=>z==y)=some j):PLAINS.getD j []=y:=by
 obtain⟨hl,h1,-⟩:=List.findIdx?_eq_some_iff_getElem.mp h
 rw[List.getD_eq_getElem?_getD,List.getElem?_eq_getElem hl]
 exact eq_of_beq h1
theorem Hr:("hold":Str)=strOf (ascii "hold"):=by decide +kernel
theorem Md.unit{n:Nat}{H0 H:Hp}{v:V}{s:Bytes}{k:LsWale.Reach->LsWale.Items->LsWale.Items}(m:Md (eR a n) H0 H v s)(h:∀r rest,LsWale.itemsText (k r rest)=s++(LsWale.reachText r++j4 rest))(hn:∀r rest,k r rest≠ .nil:=by intro r rest z;cases z):Md (wq a n) H0 H v k:=m.map fun F q=>⟨s,q,h,hn⟩
theorem zV:aI ["reader","token","listed"] ["reader"] (aB Af):=⟨rfl,rfl,rfl,by decide +kernel,rfl,by decide +kernel,by decide +kernel⟩
theorem Mx(T:Tx P w K mg a){m n:Nat}(F:cV P w K mg base a (40+3*m) a.kH a.lV m (qB a n) cU):cV P w K mg base a (40+3*m+1) a.m3 a.nQ (m+1) (wq a (n+1)) ik:=by
 refine aE.bx (k:=40+3*m) T.DW.fn zV fh (fun cdv A outer s H vs Q E hr h=>?_)
 obtain⟨b,R,p,d,e,rfl,hR,hd,hm,hT,kk⟩:=fR h
 have C:=T.bE.cl
 refine⟨_,ai (aY (i:=1) zV.nd rfl (Or.inl rfl) (cx (pv 0) C T.bX.mt (hU T) (hr.mono (by first|decide|lia)) T.bX.bd .nil au))
  (ai (a5 (kZ T.BH (aD (pv 1) rfl)) (aj (aN (bH (aa (aD (cx (pv 0) C T.cT.mt (jf T) (hr.mono (by first|decide|lia)) T.cT.bd .nil au) rfl) ag)))) ba)
  (ai (a5 (PW.pt (iL (a6 cq (aD (pv 1) rfl) aP (a4 _)) (iZ (a6 cq (aD (pv 1) rfl) aP (a4 _)))))
   (aj (aN (aQ T.GW (Mb T (n+1)) (hr.mono (by first|decide|lia)) au (aa (pv 0) ag)))) ba)
  (ai (a5 (cX (aZ (pv 0) C T.d5.mt (jI T) (hr.mono (by first|decide|lia)) T.d5.bd .nil au (aa aP ag))) (aj (aN (bH (aa aP (aa ((aZ (pv 0) C T.ji.mt (uL T) (hr.mono (by first|decide|lia)) T.ji.bd .nil au (aa (bB T.D0) ag))) ag))))) ba)
  (ai (a5 (a6 cq (aD (pv 1) rfl) (bB T.jA) (a4 _)) (aj (aN (bH (aa ((aZ (pv 0) C T.iI.mt (vc T) (hr.mono (by first|decide|lia)) T.iI.bd .nil au (aa (bB T.xh) ag))) ag)))) ba)
  (ai (a3 (aZ (pv 0) C T.lN.mt (Ax T) (hr.mono (by first|decide|lia)) T.lN.bd .nil au (aa aP ag))) (ai (aY (i:=2) zV.nd rfl (Or.inl rfl) (aQ T.sG F hr au (aa (pv 0) ag))) (ai (a3 (aZ (pv 0) C T.lg.mt (yA T) (hr.mono (by first|decide|lia)) T.lg.bd .nil au (aa aP ag)))
  (aj (aN (bH (aa (eP T.ll.eJ (Jh T) (hr.mono (by first|decide|lia)) rfl T.ll.at_ T.Cz.2 .nil aU (aa (pv 2) ag)) ag))))))))))),?_⟩
 refine(rM rfl hR.ins rfl ?_)
 refine me (e:=e) hR hT (fun k pl hb=>.inl (Fb hb d)) fun nb H1 x hR1 kp1 tk1=>?_
 have tk1':=tk1
 obtain⟨dt,ft,et,lt1,lt2,lt3,lt4,lt5⟩:=tk1
 have cl:=T.bz.cl
 refine(rF rfl et cl T.bZ lt2 ⟨rfl,eX _ rfl (eX _ rfl ?_)⟩)
 rw[Oc]
 -- a word's unit
 have uw:∀y,ao b p=.word y->ik d (ae b p e)=(LsWale.unitAt (ae b p e)>>=fun u=>.ok (LsWale.Items.one (ae b p e).place u.1,u.2)):=fun y hy=>by
  unfold ik
  rw[if_neg (by rw[gA,hy];simp)]
 refine aV (fun c=>?_) (fun c=>?_)
 ·have hy:=LC c
  have e1:=uw _ hy
  rw[o7 hy]at e1
  have hf:=Fs (fU (ao b p))
  rw[c]at hf
  obtain⟨j,hj⟩:=Option.isSome_iff_exists.mp hf
  rw[hj]at e1
  refine(rM rfl hR1.ins rfl ?_)
  refine iK hR1 nb fun H2 y hR2 kp2 tk2=>?_
  obtain⟨du,fu,eu,lu1,lu2,lu3,lu4,lu5⟩:=tk2
  rw[mX]at lu2
  refine(rG rfl eu cl T.bZ lu2 ⟨(by show 1<=sizeLine;decide),fun l hl=>?_⟩)
  have kp:=kp1.trans kp2
  refine kk _ _ _ e1 _ _ (hR2.same (aO hl)) (kp.trans (bq (aO hl))) ((rA (bU _) hl (kp.grow hR2.cells)).unit fun r rest=>?_)
  show LsWale.unitText (.plain j)++_=_
  rw[show LsWale.unitText (.plain j)=fU (ao b p)from Hq hj];rfl
 have nf:∀y,ao b p=.word y->(PLAINS.findIdx? fun z=>z==y)=none:=fun y hy=>by
  have hf:=Fs y
  rw[show PLAINS.contains y=false by rw[show y=fU (ao b p) by rw[hy];rfl];exact Bool.eq_false_iff.mpr c]at hf
  exact Option.not_isSome_iff_eq_none.mp (by rw[hf];decide)
 have cross:((ae b p e).isWord "cl"||(ae b p e).isWord "cr")=true->jY K a 9 (lH (eR a (n+1)) pq) qQ [.ref R.r] H1 Q E:=fun cc=>by
  obtain⟨y,hy⟩:∃y,ao b p=.word y:=by
   rcases(Bool.or_eq_true _ _).mp cc with z|z
   ·rw[mK,decide_eq_true_eq]at z;exact⟨_,z⟩
   ·rw[mK,decide_eq_true_eq]at z;exact⟨_,z⟩
  have e1:=uw _ hy
  rw[o7 hy,nf y hy]at e1
  dsimp only at e1
  rw[if_pos cc]at e1
  have e2:qQ d (ae b p e)=some (LsWale.wideAt (ae b (az b p) e)>>=fun n=>eatSign '/' n.2>>=fun t=>LsWale.wideAt t>>=fun m=>.ok (((ae b p e).isWord "cr",n.1,m.1),m.2)):=by
   unfold qQ
   rw[if_pos cc,cK (uC cc)]
  refine wF hR1 hd (by lia) e2 hT (f:=fun x=>.ok (LsWale.Items.one (ae b p e).place (.cable x.1.1 x.1.2.1 x.1.2.2),x.2)) (by rw[e1];simp only[bN];rfl) (fun x s k pl hb=>dD hb) fun x p2 e3 hS e4 H2 v2 hR2 kp2 md2=>?_
  exact kk _ _ _ e4 H2 v2 hR2 (kp1.trans kp2) (Md.unit (s:=pq x) (md2.old (kp1.grow hR1.cells)) fun r rest=>rfl)
 refine(rF rfl et cl T.bZ lt2 ⟨rfl,eX _ rfl ?_⟩)
 rw[cR,fF (c:="cl") e]
 refine aV (fun c1=>bK (eX _ rfl (cross (by rw[c1];rfl)))) (fun c1=>?_)
 refine(rF rfl et cl T.bZ lt2 ⟨rfl,eX _ rfl ?_⟩)
 rw[cR,fF (c:="cr") e]
 refine aV (fun c2=>(eX _ rfl (cross (by rw[c2,Bool.or_true])))) (fun c2=>?_)
 have ncc:¬((ae b p e).isWord "cl"||(ae b p e).isWord "cr")=true:=by rw[Bool.eq_false_iff.mpr c1,Bool.eq_false_iff.mpr c2];decide
 refine(rM rfl hR1.ins rfl ?_)
 refine qG (c:="hold") (e:=e) hR1 hT (fun k pl hb=>.inl (Fb hb d)) (fun c3 H2 hR2 kp2=>?_) (fun c3 nb H2 hR2 kp2=>?_)
 ·have hy:ao b p=.word (ascii "hold"):=by rw[mK,decide_eq_true_eq]at c3;exact c3
  have e1:=uw _ hy
  rw[o7 hy,nf _ hy]at e1
  dsimp only at e1
  rw[if_neg ncc,if_pos c3,bN]at e1
  refine(eX _ rfl (bK (rM rfl hR2.ins rfl ?_)))
  refine Gq hR2 hT e1 fun y hy H3 hR3 kp3=>⟨(by show 2<=sizeLine;decide),fun l hl=>?_⟩
  have kp:=(kp1.trans kp2).trans kp3
  refine kk _ _ _ hy _ _ (hR3.same (aO hl)) (kp.trans (bq (aO hl))) ?_
  rw[Hr]
  exact(sv (bU _) (bU y) hl (kp.grow hR3.cells)).unit fun r rest=>rfl
 have tk2:=bY.keepR tk1' hR1 kp2
 obtain⟨du,fu,eu,lu1,lu2,lu3,lu4,lu5⟩:=tk2
 refine(eX _ rfl (cw (rF rfl eu cl T.kj lu1 ⟨rfl,eX _ rfl ?_⟩)))
 have c3':¬(ae b p e).isWord "hold"=true:=by rw[c3];decide
 rw[cR]
 refine aV (fun c4=>?_) (fun c4=>?_)
 ·obtain⟨y,hy⟩:=gu.mp (of_decide_eq_true c4)
  have hy':=(tX hy).1
  have e1:=uw _ hy'
  rw[o7 hy',nf _ hy']at e1
  dsimp only at e1
  rw[if_neg ncc,if_neg c3',bN]at e1
  refine(rM rfl hR2.ins rfl ?_)
  refine uE (k:=.words) hR2 rfl hT e1 rfl fun y hy H3 hR3 kp3=>⟨(by show 1<=sizeLine;decide),fun l hl=>?_⟩
  have kp:=(kp1.trans kp2).trans kp3
  exact kk _ _ _ hy _ _ (hR3.same (aO hl)) (kp.trans (bq (aO hl))) ((rA (bU y) hl (kp.grow hR3.cells)).unit fun r rest=>rfl)
 have nn:nameAt b p=none:=by
  cases hx:nameAt b p with
  |none=>rfl
  |some x=>exact absurd (decide_eq_true (gu.mpr ⟨x,hx⟩)) c4
 have e1:ik d (ae b p e)=(eatOpen '(' d (ae b p e)>>=fun t=>cU (d+1) t>>=fun l=>eatSign ')' l.2>>=fun u=>.ok (LsWale.Items.group (ae b p e).place l.1,u)):=by
  unfold ik
  by_cases c5:(ae b p e).isSign '('=true
  ·rw[if_pos c5]
  ·rw[if_neg c5]
   have e3:LsWale.unitAt (ae b p e)=.error ⟨3,aS b p⟩:=by
    by_cases hw:∃y,ao b p=.word y
    ·obtain⟨y,hy⟩:=hw
     rw[o7 hy,nf _ hy]
     dsimp only
     rw[if_neg ncc,if_neg c3']
     unfold oldName
     rw[any_none nn,fC nb];rfl
    ·unfold LsWale.unitAt
     rw[d9]
     cases q:ao b p with
     |word y=>exact absurd ⟨y,q⟩ hw
     |_=>
      dsimp only
      exact fC nb
   rw[e3]
   unfold eatOpen
   rw[if_pos (Bool.eq_false_iff.mpr c5),fC nb];rfl
 refine(rM rfl hR2.ins rfl ?_)
 refine ym hR2 hd hT e1 fun e2 l8 hs H3 hR3 kp3=>(eX _ rfl ?_)
 refine cf (m:=m) hR3 (by lia) (by lia) hT e2 (fun x s k pl hb=>zr hb) fun y p' e' hS e3 H4 v4 hR4 kp4 md4=>?_
 refine(rM rfl hR4.ins rfl ?_)
 refine AD hR4 hT e3 fun e4 H5 hR5 kp5=>(eX _ rfl (fun x6 dx6 n6 nd6 ne6=>⟨x6,dx6,v4,rfl,aw,fun H6 e6 kp6=>⟨rfl,(by show 1<=sizeLine;decide),fun l hl=>?_⟩⟩))
 have sm6:=aK.made n6 nd6 kp6
 have kp:=(((kp1.trans kp2).trans kp3).trans kp4).trans kp5
 have g5:=kp.grow hR5.cells
 have md5:=(md4.keep (DB a n) hR3.cells kp5).old (((kp1.trans kp2).trans kp3).grow hR3.cells)
 obtain⟨F5,⟨ps,hps,eps⟩,s5⟩:=md5
 have mbr:=Md.br (ck a n) ⟨F5,hps,s5⟩ g5 sm6 n6 e6
 have g6:cp H H6:=g5.trans (DK sm6)
 refine kk _ _ _ e4 _ _ ((hR5.same sm6).same (aO hl)) ((kp.trans (bq sm6)).trans (bq (aO hl))) ?_
 refine(rA (s:=40::(dh ps++[41])) (mbr.map (r':=dm a (n+1)) fun F q=>Or.inr (Or.inr ⟨ps,q,rfl⟩)) hl g6).unit fun r rest=>?_
 rw[eps]
 show 40::(LsWale.itemsText y++41::(LsWale.reachText r++j4 rest))=40::(LsWale.itemsText y++[41])++(LsWale.reachText r++j4 rest)
 rw[List.cons_append,List.append_assoc];rfl
end Wale
end
section
set_option Elab.async false
set_option linter.all false
set_option maxRecDepth 100000
set_option maxHeartbeats 2000000
namespace Wale
open PySem PySem.Spec PyProof.Rows L2
open Wm
open LsWale (ascii Fault eatSign eatWord eatOpen anyName newName oldName markName holdName wanted isName PLAINS)
variable {P:Program}{w:World}{K:PySem.W.Frag}{mg:Str->Option Value}{base:Heap}{a:Ad}
theorem L9{b:Bytes}{p:Nat}(e:aC):dY (.str (bo (ao b p))) ((["take","yarn","mark","pass","clear","turn","fasten"]:List Str).map V.str)=(LsWale.loneAt (ae b p e)).isSome:=by
 rw[in_words (e:=e) ["take","yarn","mark","pass","clear","turn","fasten"] (by decide +kernel) (by decide +kernel)]
 unfold LsWale.loneAt
 simp only[List.any_cons,List.any_nil,Bool.or_false]
 by_cases h1:(ae b p e).isWord "take"=true
 ·simp[h1]
 by_cases h2:(ae b p e).isWord "yarn"=true
 ·simp[h1,h2]
 by_cases h3:(ae b p e).isWord "mark"=true
 ·simp[h1,h2,h3]
 by_cases h4:(ae b p e).isWord "pass"=true
 ·simp[h1,h2,h3,h4]
 by_cases h5:(ae b p e).isWord "clear"=true
 ·simp[h1,h2,h3,h4,h5]
 by_cases h6:(ae b p e).isWord "turn"=true
 ·simp[h1,h2,h3,h4,h5,h6]
 by_cases h7:(ae b p e).isWord "fasten"=true
 ·simp[h1,h2,h3,h4,h5,h6,h7]
 ·simp[h1,h2,h3,h4,h5,h6,h7]
theorem Jt{d:Nat}{b:Bytes}{p:Nat}{e:aC}(h:(ae b p e).isWord "to"=true):jq d (ae b p e)=fX d (ae b (az b p) e):=by
 rw[uT,if_pos h,cK (jV h)]
 rfl
theorem KD{b:Bytes}{p:Nat}{e:aC}(h:(ae b p e).isWord "to"=true):(ae b p e).sums=false:=by
 rw[mK,decide_eq_true_eq]at h
 rw[vf,h]
 show isName (ascii "to")=false
 decide +kernel
theorem Ov{d:Nat}{s:ah}{g:Except Fault (LsWale.Lone×ah)}(h:LsWale.loneAt s=some g):fK d s=g>>=fun y=>.ok (LsWale.Items.lone s.place y.1,y.2):=by
 unfold fK gw
 rw[h]
 exact map_bind _ _
theorem G4{α:Type}{s:ah}{k pl d:Nat}{f:LsWale.Reach×ah->Except Fault (α×ah)}(h:HB s k pl)(hf:∀x,bJ (f (x,s)) k pl):bJ (jq d s>>=f) k pl:=by rw[KR h];exact hf _
def MA(a:Ad)(n:Nat):Rep Bytes:=fun H F v s=>∃ph,bG a n H F v ph/\ph≠[]/\bw ph=s
def vZ(a:Ad)(n:Nat):Rep (LsWale.Items->LsWale.Items):=fun H F v k=>∃s,MA a n H F v s/\(∀rest,LsWale.itemsText (k rest)=s++j4 rest)/\∀rest,k rest≠ .nil
theorem Md.item{n:Nat}{H0 H:Hp}{v:V}{ph:List Bytes}{k:LsWale.Items->LsWale.Items}(m:Md (bG a n) H0 H v ph)(ne:ph≠[])(hn:∀rest,k rest≠ .nil)(h:∀rest,LsWale.itemsText (k rest)=bw ph++j4 rest):Md (vZ a n) H0 H v k:=m.map fun F q=>⟨bw ph,⟨ph,q,ne,rfl⟩,h,hn⟩
theorem eO{H0 H:Hp}{l:Addr}{vs:List V}{o:HO}(h0:H0 l=none)(e:H l=some (.lst vs)):dB H0 H (upd H l o) l:=⟨fun b ob eb hb=>by rw[ak hb];exact eb,h0,.inl ⟨vs,e⟩,sh⟩
theorem eU{H:Hp}{l:Addr}{o:HO}(e:H l=some o):H l≠none:=by rw[e];exact fun z=>nomatch z
theorem M9{d:Nat}{s t:ah}{x:LsWale.Reach}(h:fX d s=.ok (x,t)):LsWale.reachText x=32::(ascii "to"++32::GJ x):=by
 unfold fX at h
 split at h
 ·cases h;rfl
 ·split at h
  ·obtain⟨y,_,h2⟩:=aG h
   cases h2;rfl
  ·obtain⟨y,_,h2⟩:=aG h
   obtain⟨z,_,h3⟩:=aG h2
   cases h3;rfl
theorem Jc:("to":Str)=strOf (ascii "to"):=by decide +kernel
theorem CU:aI ["reader","phrase"] ["reader"] (aB v9):=⟨rfl,rfl,rfl,by decide +kernel,rfl,by decide +kernel,by decide +kernel⟩
theorem N2(T:Tx P w K mg a){k m n:Nat}(hk:40<=k)(F:cV P w K mg base a k a.m3 a.nQ m (wq a n) ik):cV P w K mg base a (k+1) a.oz a.nu m (vZ a n) fK:=by
 refine aE.bx (k:=k) T.zL.fn CU fh (fun cdv A outer s H vs Q E hr h=>?_)
 obtain⟨b,R,p,d,e,rfl,hR,hd,hm,hT,kk⟩:=fR h
 have C:=T.bE.cl
 refine⟨_,ai (a5 (kZ T.Ic (aD (cx (pv 0) C T.bX.mt (hU T) (hr.mono (by first|decide|lia)) T.bX.bd .nil au) rfl)) (aj (aN (aQ T.EF (Oh T n) (hr.mono (by first|decide|lia)) au (aa (pv 0) ag)))) ba)
  (ai (aY (i:=1) CU.nd rfl (Or.inl rfl) (aQ T.DW F hr au (aa (pv 0) ag)))
  (ai (a5 (cX (aQ T.yw (DL T) (hr.mono (by first|decide|lia)) aU (aa (cx (pv 0) C T.bX.mt (hU T) (hr.mono (by first|decide|lia)) T.bX.bd .nil au) ag)))
   (aj (a3 ((dv PySem.F.plainAttrs_list PySem.F.slot_list_append PySem.F.type_list_append eB (pv 1) (aa (aQ T.iH (jD T 9) (hr.mono (by first|decide|lia)) au (aa (pv 0) ag)) ag)))))
   (aj (a5 (cX (aZ (pv 0) C T.d5.mt (jI T) (hr.mono (by first|decide|lia)) T.d5.bd .nil au (aa aP ag))) (ai (a3 ((dv PySem.F.plainAttrs_list PySem.F.slot_list_append PySem.F.type_list_append eB (pv 1) (aa aP ag)))) (aj (a3 ((dv PySem.F.plainAttrs_list PySem.F.slot_list_extend PySem.F.type_list_extend qp (pv 1) (aa (aQ T.FE (IH T n) (hr.mono (by first|decide|lia)) au (aa (pv 0) ag)) ag)))))) ba)))
  (aj (aN (pv 1))))),?_⟩
 have sz:sizeLine=16777216:=by decide
 refine As (e:=e) T rfl hR hT (fun k pl hb=>.inl (BZ hb d)) fun nb H1 hR1 kp1=>?_
 rw[L9 e]
 cases hl:LsWale.loneAt (ae b p e)with
 |some g=>
  refine bK (eX _ rfl ?_)
  refine wF (S:=zB) hR1 hd (by lia) hl hT (Ov hl) (fun x s k pl hb=>dD hb) fun x p2 e2 hS e3 H2 v2 hR2 kp2 md2=>kk _ _ _ e3 H2 v2 hR2 (kp1.trans kp2) ?_
  obtain⟨F2,⟨ph,hph,nph,lph,eph⟩,sn2⟩:=md2.old (kp1.grow hR1.cells)
  exact Md.item ⟨F2,hph,sn2⟩ nph (fun rest z=>by cases z) fun rest=>by
   rw[eph];rfl
 |none=>
  have e0:=Nm (d:=d) hl
  refine cw (eX _ rfl ?_)
  refine cf hR1 hd hm hT e0 (fun x s k pl hb=>G4 hb fun _=>dD hb) fun u p2 e2 hS e3 H2 v2 hR2 kp2 md2=>?_
  obtain⟨F2,⟨s,⟨ph,hph,nph,lph,eph⟩,hs,hnn⟩,sn2⟩:=md2.old (kp1.grow hR1.cells)
  have mph:Md (bG a n) H H2 v2 ph:=⟨F2,hph,sn2⟩
  obtain⟨l,rfl⟩:=mph.ref
  have kp02:=kp1.trans kp2
  refine(rM rfl hR2.ins rfl ?_)
  have hb2:∀k pl,HB (ae b p2 e2) k pl->bJ (fK d (ae b p e)) k pl:=fun k pl hb=>by rw[e3];exact G4 hb fun _=>dD hb
  refine me (e:=e2) hR2 hT hb2 fun nb2 H3 x hR3 kp3 tk3=>?_
  have kp03:=kp02.trans kp3
  have mph3:=mph.keep (cH a n) hR.cells kp3
  obtain⟨hn,vs3,el3,hlen3⟩:=mph3.cell
  refine⟨b,p2,x,rfl,tk3,nb2,eX _ rfl ?_⟩
  rw[C0 b p2 .none_ e2]
  by_cases cs:(ae b p2 e2).sums=true
  ·rw[cs]
   have nt:¬(ae b p2 e2).isWord "to"=true:=fun z=>by rw[KD z]at cs;cases cs
   dsimp only at e3
   rw[uT,if_neg nt,if_pos cs,bN]at e3
   refine bK (eX _ rfl ⟨.inl ⟨rfl,_,aF.of el3⟩,eX _ rfl ?_⟩)
   refine cf hR3 hd (by lia) hT e3 (fun x s k pl hb=>dD hb) fun x p3 e4 hS' e5 H4 v4 hR4 kp4 md4=>?_
   have mph4:=mph3.keep (cH a n) hR.cells kp4
   obtain⟨_,vs4,el4,hlen4⟩:=mph4.cell
   have lc:dB H H4 (upd H4 l (.lst (vs4++[v4]))) l:=eO hn el4
   refine⟨l,vs4,v4,rfl,rfl,el4,by lia,eX _ rfl ?_⟩
   refine kk _ _ _ e5 _ _ (hR4.bO hR lc) ((kp03.trans kp4).bO lc) ?_
   refine(mph4.append (ck a n) el4 (jv md4) (eU el3) (kp03.grow hR3.cells)).item (by simp) (hnn _) fun rest=>?_
   rw[vd nph (by simp),eph,List.append_assoc]
   exact hs _ rest
  ·rw[Bool.eq_false_iff.mpr cs]
   refine cw (rM rfl hR3.ins rfl ?_)
   refine qG (c:="to") (e:=e2) hR3 hT hb2 (fun c H4 hR4 kp4=>?_) (fun c nb H4 hR4 kp4=>?_)
   ·dsimp only at e3
    rw[Jt c]at e3
    have kp04:=kp03.trans kp4
    have mph4:=mph3.keep (cH a n) hR.cells kp4
    obtain⟨_,vs4,el4,hlen4⟩:=mph4.cell
    refine(eX _ rfl (bK (eX _ rfl ⟨.inl ⟨rfl,_,aF.of el4⟩,l,vs4,eX _ rfl ⟨rfl,el4,by lia,?_⟩⟩)))
    rw[Jc]
    have lc:dB H H4 (upd H4 l (.lst (vs4++[.str (strOf (ascii "to"))]))) l:=eO hn el4
    have mph5:=mph4.append (v:=.str (strOf (ascii "to"))) (H1:=H4) (ck a n) el4 (bU (ascii "to")) (eU el4) (kp04.grow hR4.cells)
    have hR5:=hR4.bO hR lc
    have kp05:=kp04.bO lc
    refine(eX _ rfl ⟨.inl ⟨rfl,_,aF.of aw⟩,eX _ rfl ?_⟩)
    refine cf hR5 hd (by lia) hT e3 (fun x s k pl hb=>dD hb) fun x p3 e4 hS' e5 H6 v6 hR6 kp6 md6=>?_
    have mph6:=mph5.keep (cH a n) hR.cells kp6
    obtain⟨_,vs6,el6,hlen6⟩:=mph6.cell
    obtain⟨F6,⟨gp,hgp,ngp,lgp,egp⟩,sn6⟩:=md6
    have mgp:Md (bG a n) _ H6 v6 gp:=⟨F6,hgp,sn6⟩
    obtain⟨l6,rfl⟩:=mgp.ref
    obtain⟨_,ws6,em6,hlem6⟩:=mgp.cell
    have lc6:dB H H6 (upd H6 l (.lst (vs6++ws6))) l:=eO hn el6
    refine⟨l,l6,vs6,ws6,rfl,rfl,el6,em6,by rw[hlen6,List.length_append,List.length_singleton];lia,eX _ rfl ?_⟩
    refine kk _ _ _ e5 _ _ (hR6.bO hR lc6) ((kp05.trans kp6).bO lc6) ?_
    refine(mph6.extend (ck a n) el6 mgp em6 (eU aw) (kp05.grow hR5.cells)).item (by simp) (hnn _) fun rest=>?_
    rw[vd (by simp) ngp,vd nph (by simp),eph,egp,hs x rest,M9 hS']
    simp only[List.append_assoc,List.cons_append]
    rfl
   ·dsimp only at e3
    rw[uT,if_neg (by rw[c];decide),if_neg cs]at e3
    refine(eX _ rfl (cw (eX _ rfl (kk _ _ _ e3 H4 _ hR4 (kp03.trans kp4) ?_))))
    exact(mph3.keep (cH a n) hR.cells kp4).item nph (hnn _) fun rest=>by rw[eph];exact hs .once rest
end Wale
end
section
set_option Elab.async false
set_option linter.all false
set_option maxRecDepth 100000
set_option maxHeartbeats 2000000
namespace Wale
open PySem PySem.Spec PyProof.Rows L2
open Wm
open LsWale (ascii Fault eatSign eatWord eatOpen anyName newName oldName markName holdName wanted isName PLAINS)
variable {P:Program}{w:World}{K:PySem.W.Frag}{mg:Str->Option Value}{base:Heap}{a:Ad}
theorem Ey:aI ["reader","phrases"] ["reader"] (aB yj):=⟨rfl,rfl,rfl,by decide +kernel,rfl,by decide +kernel,by decide +kernel⟩
def jX(d:Nat)(F:LsWale.Items->LsWale.Items)(s:ah):Except Fault (LsWale.Items×ah):=if s.isSign ','=true then(cU d s.next>>=fun l=>.ok (F l.1,l.2))else .ok (F .nil,s)
theorem wb{s:ah}{k pl d:Nat}{F:LsWale.Items->LsWale.Items}(h:HB s k pl):bJ (jX d F s) k pl:=by
 unfold jX
 rw[if_neg (by rw[f9 h];decide)]
 exact dD h
theorem Jy{b:Bytes}{p d:Nat}{e:aC}{F:LsWale.Items->LsWale.Items}(h:(ae b p e).isSign ','=true):jX d F (ae b p e)=fK d (ae b (az b p) e)>>=fun x=>jX d (F∘x.1) x.2:=by
 unfold jX
 rw[if_pos h,cK (gI h),xp,bN]
 congr 1
 funext x
 by_cases c:x.2.isSign ','=true
 ·rw[if_pos c,if_pos c,bN];rfl
 ·rw[if_neg c,if_neg c];rfl
theorem Bd:∀(ps:List Bytes)(x:Bytes),ps≠[]->LsWale.commas (ps++[x])=LsWale.commas ps++(ascii ", "++x)
 |[],_,h=>absurd rfl h
 |[y],x,_=>rfl
 |y::z::r,x,_=>by
  show y++(ascii ", "++LsWale.commas ((z::r)++[x]))=(y++(ascii ", "++LsWale.commas (z::r)))++(ascii ", "++x)
  rw[Bd (z::r) x (by simp)]
  simp only[List.append_assoc]
theorem LH{ps:List (List Bytes)}(ph:List Bytes)(h:ps≠[]):dh (ps++[ph])=dh ps++(ascii ", "++bw ph):=by
 unfold dh
 rw[List.map_append]
 exact Bd _ _ (by cases ps with|nil=>exact absurd rfl h|cons _ _=>simp)
theorem O1{x:LsWale.Items}(h:x≠ .nil):j4 x=ascii ", "++LsWale.itemsText x:=if_neg h
theorem P4(T:Tx P w K mg a){k m n:Nat}(hk:10<=k)(F:cV P w K mg base a k a.oz a.nu m (vZ a n) fK):cV P w K mg base a (k+1) a.kH a.lV m (qB a n) cU:=by
 refine aE.bx (k:=k) T.sG.fn Ey fh (fun cdv A outer s H vs Q E hr h=>?_)
 obtain⟨b,R,p,d,e,rfl,hR,hd,hm,hT,kk⟩:=fR h
 have C:=T.bE.cl
 have G:=cH a n
 refine⟨_,ai (aY (i:=1) Ey.nd rfl (Or.inl rfl) (bH (aa (aQ T.zL F hr au (aa (pv 0) ag)) ag)))
  (ai (f7 hG (cX (aZ (pv 0) C T.d5.mt (jI T) (hr.mono (by first|decide|lia)) T.d5.bd .nil au (aa aP ag))) (aj (a3 ((dv PySem.F.plainAttrs_list PySem.F.slot_list_append PySem.F.type_list_append eB (pv 1) (aa (aQ T.zL F hr au (aa (pv 0) ag)) ag))))))
  (aj (aN (eP T.ip.eJ (xT T) (hr.mono (by first|decide|lia)) rfl T.ip.at_ T.uF.2 .nil aU (aa (pv 1) ag))))),?_⟩
 refine(eX _ rfl ?_)
 have e0:cU d (ae b p e)=fK d (ae b p e)>>=fun x=>jX d x.1 x.2:=xp d _
 refine cf hR hd hm hT e0 (fun x s k pl hb=>wb hb) fun x p1 e1 hS h1 H1 v1 hR1 kp1 md1=>⟨(by show 1<=sizeLine;decide),fun l hl=>?_⟩
 obtain⟨F1,⟨s1,⟨ph,hph,nph,eph⟩,hs,hnn⟩,sn1⟩:=md1
 have ml:=aM.list G (aM.cons G ⟨F1,hph,sn1⟩ aM.nil) hl (kp1.grow hR1.cells)
 let I:(LsWale.Items->LsWale.Items)×Nat×aC->L2.St->Hp->Prop:=fun i σ H'=>σ=[some (.ref R.r),some (.ref l)]/\aq a K b R i.2.1 d (lst i.2.2) H'/\aH R H H'/\cU d (ae b p e)=jX d i.1 (ae b i.2.1 i.2.2)/\
  ∃pss,Md (cE (bG a n)) H H' (.ref l) pss/\pss≠[]/\(∀rest,LsWale.itemsText (i.1 rest)=dh pss++j4 rest)/\pss.length+(toks b i.2.1).length<=(toks b p).length
 let μ:(LsWale.Items->LsWale.Items)×Nat×aC->Nat:=fun i=>(toks b i.2.1).length
 have l1:=mH (zD d _) hS
 refine gx I μ (x,p1,e1) ⟨rfl,hR1.same (aO hl),kp1.trans (bq (aO hl)),h1,[ph],ml,by simp,fun rest=>?_,?_⟩ ?_
 ·show _=bw ph++_
  rw[eph];exact hs rest
 ·show 1+(toks b p1).length<=_
  lia
 rintro⟨x,p1,e1⟩ σ H2 ⟨rfl,hR2,kp2,h2,pss,ms,ne,tx,ln⟩
 dsimp only at hR2 h2 tx ln
 refine(rM rfl hR2.ins rfl ?_)
 refine AR (c:=',') (e:=e1) hR2 hT (fun k pl hb=>by rw[h2];exact wb hb) (fun c H3 hR3 kp3=>?_) (fun c nb H3 hR3 kp3=>?_)
 ·rw[Jy c]at h2
  have ms3:=ms.keep (bT G) hR.cells kp3
  obtain⟨hn,vs3,el3,hlen3⟩:=ms3.cell
  refine(eX _ rfl (bK ?_))
  refine fM (I:=I) (μ:=μ) (i:=(x,p1,e1)) ?_
  refine(eX _ rfl ⟨.inl ⟨rfl,_,aF.of el3⟩,eX _ rfl ?_⟩)
  refine cf hR3 hd hm hT h2 (fun x s k pl hb=>wb hb) fun x' p2 e2 hS2 h3 H4 v4 hR4 kp4 md4=>?_
  have ms4:=ms3.keep (bT G) hR.cells kp4
  obtain⟨_,vs4,el4,hlen4⟩:=ms4.cell
  obtain⟨F4,⟨s4,⟨ph4,hph4,nph4,eph4⟩,hs4,hnn4⟩,sn4⟩:=md4
  have lc:dB H H4 (upd H4 l (.lst (vs4++[v4]))) l:=eO hn el4
  have sz:=rS hR.len p
  have l2:=mH (zD d _) hS2
  have l3:=oP (gI c)
  refine⟨l,vs4,v4,rfl,rfl,el4,by lia,(x∘x',p2,e2),?_,rfl,hR4.bO hR lc,((kp2.trans kp3).trans kp4).bO lc,h3,pss++[ph4],ms4.append G el4 ⟨F4,hph4,sn4⟩ (eU el3) ((kp2.trans kp3).grow hR3.cells),by simp,fun rest=>?_,?_⟩
  ·show(toks b p2).length<(toks b p1).length
   lia
  ·show LsWale.itemsText (x (x' rest))=_
   rw[tx,O1 (hnn4 rest),hs4,LH ph4 ne,eph4]
   simp only[List.append_assoc]
  ·show(pss++[ph4]).length+(toks b p2).length<=_
   rw[List.length_append,List.length_singleton];lia
 ·have h2':cU d (ae b p e)=.ok (x .nil,ae b p1 e1):=by
   rw[h2];unfold jX;rw[if_neg (by rw[c];decide)]
  have ms3:=ms.keep (bT G) hR.cells kp3
  refine(eX _ rfl (cw (eX _ rfl (fun x6 dx6 n6 nd6 ne6=>⟨x6,dx6,.ref l,rfl,aw,fun H6 e6 kp6=>⟨rfl,?_⟩⟩))))
  have sm6:=aK.made n6 nd6 kp6
  refine kk _ _ _ h2' H6 _ (hR3.same sm6) ((kp2.trans kp3).trans (bq sm6)) ?_
  refine(Md.listed (ck a n) ms3 ((kp2.trans kp3).grow hR3.cells) sm6 n6 e6).map fun F q=>⟨pss,q,?_⟩
  rw[tx .nil]
  show _=dh pss++[]
  rw[List.append_nil]
theorem xA(T:Tx P w K mg a):∀m,cV P w K mg base a (40+3*m) a.kH a.lV m (qB a m) cU
 |0=>wx
 |m+1=>P4 T (k:=40+3*m+1+1) (by lia) (N2 T (by lia) (Mx T (xA T m)))
end Wale
end
section
set_option Elab.async false
set_option linter.all false
set_option maxRecDepth 100000
set_option maxHeartbeats 2000000
namespace Wale
open PySem PySem.Spec PyProof.Rows L2
open Wm
open LsWale (ascii Fault eatSign eatWord eatOpen anyName newName oldName markName holdName wanted isName PLAINS)
variable {P:Program}{w:World}{K:PySem.W.Frag}{mg:Str->Option Value}{base:Heap}{a:Ad}
def b5(l:List Bytes):Bytes:=l.flatMap fun x=>x++[10]
theorem iY(x y:List Bytes):b5 (x++y)=b5 x++b5 y:=by unfold b5;rw[List.flatMap_append]
def FJ(ph:List Bytes)(f:Nat->List Bytes):Prop:=∀d,f d=[LsWale.indent d++(bw ph++[59])]
def M6(ph:List Bytes)(fs:List (Nat->List Bytes))(f:Nat->List Bytes):Prop:=∀d,f d=(LsWale.indent d++(bw ph++ascii " {"))::(fs.flatMap (fun g=>g (d+1))++[LsWale.indent d++[125]])
def vj(a:Ad):Rep (Nat->List Bytes):=fun H F v f=>∃(c dx:Addr)(pv:V)(ph:List Bytes),v=.ref c/\F c/\H c=some (.ins a.dR dx [("phrase",pv),("body",.ax)])/\bG a 10 H F pv ph/\FJ ph f
def AK(a:Ad)(r:Rep (Nat->List Bytes)):Rep (Nat->List Bytes):=fun H F v f=>∃(c dx:Addr)(pv bv:V)(ph:List Bytes)(fs:List (Nat->List Bytes)),v=.ref c/\F c/\H c=some (.ins a.dR dx [("phrase",pv),("body",bv)])/\bG a 10 H F pv ph/\cE r H F bv fs/\M6 ph fs f
def dU(a:Ad):Nat->Rep (Nat->List Bytes)
 |0=>vj a
 |n+1=>fun H F v f=>vj a H F v f\/AK a (dU a n) H F v f
theorem xW(a:Ad):Good (vj a) where
 frame:=by
  rintro H H' F v x ⟨c,dx,pv,ph,rfl,h1,h2,h3,h4⟩ e
  exact⟨c,dx,pv,ph,rfl,h1,by rw[e c h1];exact h2,(cH a 10).frame h3 e,h4⟩
 mono:=by
  rintro H F F' v x ⟨c,dx,pv,ph,rfl,h1,h2,h3,h4⟩ m
  exact⟨c,dx,pv,ph,rfl,m c h1,h2,(cH a 10).mono h3 m,h4⟩
theorem DT{r:Rep (Nat->List Bytes)}(G:Good r):Good (AK a r) where
 frame:=by
  rintro H H' F v x ⟨c,dx,pv,bv,ph,fs,rfl,h1,h2,h3,h4,h5⟩ e
  exact⟨c,dx,pv,bv,ph,fs,rfl,h1,by rw[e c h1];exact h2,(cH a 10).frame h3 e,(bT G).frame h4 e,h5⟩
 mono:=by
  rintro H F F' v x ⟨c,dx,pv,bv,ph,fs,rfl,h1,h2,h3,h4,h5⟩ m
  exact⟨c,dx,pv,bv,ph,fs,rfl,m c h1,h2,(cH a 10).mono h3 m,(bT G).mono h4 m,h5⟩
theorem gE(a:Ad):∀n,Good (dU a n)
 |0=>xW a
 |n+1=>⟨fun h e=>h.elim (fun z=>.inl ((xW a).frame z e)) fun z=>.inr ((DT (gE a n)).frame z e),fun h m=>h.elim (fun z=>.inl ((xW a).mono z m)) fun z=>.inr ((DT (gE a n)).mono z m)⟩
theorem J4(n:Nat){H:Hp}{F:Fp}{v:V}{f:Nat->List Bytes}(h:vj a H F v f):dU a n H F v f:=by
 cases n with
 |zero=>exact h
 |succ n=>exact .inl h
def kJ(a:Ad)(n:Nat):Rep LsWale.Stats:=fun H F v st=>∃fs,cE (dU a n) H F v fs/\(∀d,b5 (fs.flatMap fun f=>f d)=LsWale.statsText d st)/\fs.length<=20001
def CN(a:Ad)(n:Nat):Rep (LsWale.Stats->LsWale.Stats):=fun H F v k=>∃f,dU a n H F v f/\∀d r,LsWale.statsText d (k r)=b5 (f d)++LsWale.statsText d r
theorem yY(a:Ad)(n:Nat):Good (kJ a n):=⟨fun⟨fs,h,q⟩e=>⟨fs,(bT (gE a n)).frame h e,q⟩,fun⟨fs,h,q⟩m=>⟨fs,(bT (gE a n)).mono h m,q⟩⟩
theorem Md.zz{n:Nat}{H0 H H':Hp}{u:V}{ph:List Bytes}{x dx:Addr}(m:Md (bG a 10) H0 H u ph)(g:cp H0 H)(s:aK H H')(nx:H x=none)(e:H' x=some (.ins a.dR dx [("phrase",u),("body",.ax)])):Md (dU a n) H0 H' (.ref x) (fun d=>[LsWale.indent d++(bw ph++[59])]):=by
 obtain⟨F,h,sn⟩:=m.same (cH a 10) s
 refine⟨fun b=>b=x\/F b,J4 n ⟨x,dx,u,ph,rfl,.inl rfl,e,(cH a 10).mono h fun b hb=>.inr hb,fun d=>rfl⟩,fun b hb=>?_⟩
 rcases hb with rfl|hb
 ·exact⟨g.none nx,_,e⟩
 ·exact sn b hb
theorem Md.Eu{n:Nat}{H0 H H':Hp}{u t:V}{ph:List Bytes}{fs:List (Nat->List Bytes)}{x dx:Addr}(m:Md (bG a 10) H0 H u ph)(mb:Md (cE (dU a n)) H0 H t fs)(g:cp H0 H)(s:aK H H')(nx:H x=none)(e:H' x=some (.ins a.dR dx [("phrase",u),("body",t)])):
  Md (dU a (n+1)) H0 H' (.ref x) (fun d=>(LsWale.indent d++(bw ph++ascii " {"))::(fs.flatMap (fun g=>g (d+1))++[LsWale.indent d++[125]])):=by
 obtain⟨F,h,sn⟩:=m.same (cH a 10) s
 obtain⟨F2,h2,sn2⟩:=mb.same (bT (gE a n)) s
 refine⟨fun b=>b=x\/F b\/F2 b,Or.inr ⟨x,dx,u,t,ph,fs,rfl,.inl rfl,e,(cH a 10).mono h fun b hb=>.inr (.inl hb),(bT (gE a n)).mono h2 fun b hb=>.inr (.inr hb),fun d=>rfl⟩,fun b hb=>?_⟩
 rcases hb with rfl|hb|hb
 ·exact⟨g.none nx,_,e⟩
 ·exact sn b hb
 ·exact sn2 b hb
def AJ(d:Nat)(s:ah):Except Fault ((a0×Bool)×ah):=bg .sum d s>>=fun x=>.ok ((x.1,x.2.isWord "round"),if x.2.isWord "round"=true then x.2.next else x.2)
def P0(x:a0×Bool):Bytes:=LsWale.sumText x.1++(if x.2=true then ascii " round" else[])
theorem Oe:("round":Str)=strOf (ascii "round"):=by decide +kernel
theorem BS:aI ["reader","phrase"] ["reader"] (aB x5):=⟨rfl,rfl,rfl,by decide +kernel,rfl,by decide +kernel,by decide +kernel⟩
theorem La(T:Tx P w K mg a)(N:Nat):cV P w K mg base a 38 a.rO a.rX 9 (lH (eR a N) P0) AJ:=by
 refine aE.bx (k:=37) T.GF.fn BS fh (fun cdv A outer s H vs Q E hr h=>?_)
 obtain⟨b,R,p,d,e,rfl,hR,hd,hm,hT,kk⟩:=fR h
 have C:=T.bE.cl
 have G:=ck a N
 refine⟨_,ai (aY (i:=1) BS.nd rfl (Or.inl rfl) (bH (aa (aQ T.iH (jD T 9) hr au (aa (pv 0) ag)) ag)))
  (ai (a5 (cX (aZ (pv 0) C T.d5.mt (jI T) (hr.mono (by first|decide|lia)) T.d5.bd .nil au (aa aP ag))) (aj (a3 ((dv PySem.F.plainAttrs_list PySem.F.slot_list_append PySem.F.type_list_append eB (pv 1) (aa aP ag))))) ba) (aj (aN (pv 1)))),?_⟩
 refine(eX _ rfl ?_)
 refine cf hR hd hm hT rfl (fun x s k pl hb=>by dsimp only;rw[if_neg (by rw[gY hb];decide)];exact dD hb) fun x p1 e1 hS h1 H1 v1 hR1 kp1 md1=>⟨(by show 1<=sizeLine;decide),fun l hl=>?_⟩
 dsimp only at h1
 have ml:Md (bG a N) H _ (.ref l) [LsWale.sumText x]:=aM.list G (aM.cons G (jv md1) aM.nil) hl (kp1.grow hR1.cells)
 have hR2:=hR1.same (aO (o:=.lst [v1]) hl)
 have kp2:=kp1.trans (bq (aO (o:=.lst [v1]) hl))
 refine(rM rfl hR2.ins rfl ?_)
 refine qG (c:="round") (e:=e1) hR2 hT (fun k pl hb=>by rw[h1,if_neg (by rw[gY hb];decide)];exact dD hb) (fun c H3 hR3 kp3=>?_) (fun c nb H3 hR3 kp3=>?_)
 ·rw[if_pos c,cK (jV c),c]at h1
  have ml3:=ml.keep (cH a N) hR.cells kp3
  obtain⟨hn,vs3,el3,hlen3⟩:=ml3.cell
  have lc:dB H H3 (upd H3 l (.lst (vs3++[.str (strOf (ascii "round"))]))) l:=eO hn el3
  refine(eX _ rfl (bK (eX _ rfl ⟨.inl ⟨rfl,_,aF.of el3⟩,l,vs3,eX _ rfl ⟨rfl,el3,(by rw[hlen3];show 1<sizeLine;decide),?_⟩⟩)))
  rw[Oe]
  refine(eX _ rfl (kk _ _ _ h1 _ _ (hR3.bO hR lc) ((kp2.trans kp3).bO lc) ?_))
  refine(ml3.append G el3 (bU (H0:=H3) (ascii "round")) (eU el3) ((kp2.trans kp3).grow hR3.cells)).map fun F q=>⟨_,q,by simp,(by show 2<=4;decide),?_⟩
  rfl
 ·rw[if_neg (by rw[c];decide),c]at h1
  refine(eX _ rfl (cw (eX _ rfl (kk _ _ _ h1 H3 _ hR3 (kp2.trans kp3) ?_))))
  refine(ml.keep (cH a N) hR.cells kp3).map fun F q=>⟨_,q,by simp,(by show 1<=4;decide),?_⟩
  show LsWale.sumText x=LsWale.sumText x++[]
  rw[List.append_nil]
def jm(s:ah):Option Bool:=if s.isWord "rs"=true then some true else if s.isWord "ws"=true then some false else none
def gU(d:Nat)(s:ah):Except Fault ((Option Bool×LsWale.Items)×ah):=cU d (if(s.isWord "rs"||s.isWord "ws")=true then s.next else s)>>=fun x=>.ok ((jm s,x.1),x.2)
def kW(x:Option Bool×LsWale.Items):Bytes:=(match x.1 with|some true=>ascii "rs "|some false=>ascii "ws "|none=>[])++LsWale.itemsText x.2
theorem Ln{s:ah}{k pl:Nat}(h:HB s k pl)(d:Nat):gU d s=.error ⟨k,pl⟩:=by
 unfold gU
 rw[if_neg (by rw[gY h,gY h];decide),PX h];rfl
theorem LS(d:Nat)(s:ah){α:Type}(f:LsWale.Items×ah->Except Fault α):(cU d (rowAt s)>>=f)=gU d s.next>>=fun x=>f (x.1.2,x.2):=by
 unfold gU
 rw[bN]
 have:rowAt s=if(s.next.isWord "rs"||s.next.isWord "ws")=true then s.next.next else s.next:=by
  unfold rowAt l9
  by_cases h1:s.next.isWord "rs"=true
  ·rw[if_pos h1,h1];rfl
  ·rw[if_neg h1,Bool.eq_false_iff.mpr h1,Bool.false_or]
   by_cases h2:s.next.isWord "ws"=true
   ·rw[if_pos h2,if_pos h2];rfl
   ·rw[if_neg h2,if_neg h2];rfl
 rw[this];rfl
theorem C3:aI ["reader","phrase"] ["reader"] (aB AX):=⟨rfl,rfl,rfl,by decide +kernel,rfl,by decide +kernel,by decide +kernel⟩
theorem Qh{b:Bytes}{p:Nat}(e:aC):dY (.str (bo (ao b p))) [.str "rs",.str "ws"]=((ae b p e).isWord "rs"||(ae b p e).isWord "ws"):=by
 have h:=in_words (b:=b) (p:=p) (e:=e) ["rs","ws"] (l:=["rs","ws"]) (by decide +kernel) (by decide +kernel)
 rw[show(["rs","ws"].any fun c=>(ae b p e).isWord c)=((ae b p e).isWord "rs"||((ae b p e).isWord "ws"||false))from rfl,Bool.or_false]at h
 exact h
theorem KZ{α:Type}(r:Except Fault α):r=r>>=fun x=>.ok x:=by cases r<;>rfl
theorem Md.xH{n:Nat}{H0 H:Hp}{v:V}{x:LsWale.Items}(m:Md (qB a n) H0 H v x):Md (dm a (n+1)) H0 H v (LsWale.itemsText x):=m.map fun F⟨ps,q,e⟩=>Or.inr (Or.inl ⟨ps,q,e.symm⟩)
theorem Jz(T:Tx P w K mg a):cV P w K mg base a 68 a.qI a.rn 9 (lH (eR a 10) kW) gU:=by
 refine aE.bx (k:=67) T.Ew.fn C3 fh (fun cdv A outer s H vs Q E hr h=>?_)
 obtain⟨b,R,p,d,e,rfl,hR,hd,hm,hT,kk⟩:=fR h
 have C:=T.bE.cl
 have G:=ck a 10
 refine⟨_,ai (aY (i:=1) C3.nd rfl (Or.inl rfl) (bH ag))
  (ai (a5 (a6 q5 (aD (cx (pv 0) C T.bX.mt (hU T) (hr.mono (by first|decide|lia)) T.bX.bd .nil au) rfl) (kO (aa aP (aa aP ag))) (by rfl)) (aj (a3 ((dv PySem.F.plainAttrs_list PySem.F.slot_list_append PySem.F.type_list_append eB (pv 1) (aa (aD (cx (pv 0) C T.cT.mt (jf T) (hr.mono (by first|decide|lia)) T.cT.bd .nil au) rfl) ag))))) ba)
  (ai (a3 ((dv PySem.F.plainAttrs_list PySem.F.slot_list_append PySem.F.type_list_append eB (pv 1) (aa (aQ T.sG (xA T 9) hr au (aa (pv 0) ag)) ag)))) (aj (aN (pv 1))))),?_⟩
 refine⟨(by show 0<=sizeLine;decide),fun l hl=>?_⟩
 have ml:Md (bG a 10) H _ (.ref l) []:=aM.list G aM.nil hl (cp.refl _)
 have hR0:=hR.same (aO (o:=.lst []) hl)
 have kp0:aH R H (upd H l (.lst [])):=bq (aO hl)
 refine y3 (e:=e) T rfl hR0 hT (fun k pl hb=>.inl (Ln hb d)) fun nb H1 hR1 kp1=>?_
 have kp01:=kp0.trans kp1
 have ml1:=ml.keep (cH a 10) hR.cells kp1
 obtain⟨hn,vs1,el1,hlen1⟩:=ml1.cell
 cases vs1 with
 |cons _ _=>cases hlen1
 |nil=>
 rw[Qh e]
 refine aV (fun c=>?_) (fun c=>?_)
 ·have e1:gU d (ae b p e)=cU d (ae b (az b p) e)>>=fun x=>.ok ((jm (ae b p e),x.1),x.2):=by
   unfold gU
   rw[if_pos c,cK (uC c)]
  refine(eX _ rfl ⟨.inl ⟨rfl,_,aF.of el1⟩,rM rfl hR1.ins rfl ?_⟩)
  refine iK hR1 nb fun H2 y hR2 kp2 tk2=>?_
  obtain⟨dt,ft,et,lt1,lt2,lt3,lt4,lt5⟩:=tk2
  have kp02:=kp01.trans kp2
  have ml2:=ml1.keep (cH a 10) hR.cells kp2
  obtain⟨_,vs2,el2,hlen2⟩:=ml2.cell
  have hw:∃wd:Bytes,bo (ao b p)=strOf wd/\∀it,kW (jm (ae b p e),it)=wd++32::LsWale.itemsText it:=by
   by_cases c1:(ae b p e).isWord "rs"=true
   ·exact⟨ascii "rs",gd c1,fun it=>by unfold kW jm;rw[if_pos c1];rfl⟩
   ·exact⟨ascii "ws",gd (((Bool.or_eq_true _ _).mp c).resolve_left c1),fun it=>by unfold kW jm;rw[if_neg c1,if_pos (((Bool.or_eq_true _ _).mp c).resolve_left c1)];rfl⟩
  obtain⟨wd,hwd,hrow⟩:=hw
  rw[hwd]at lt2
  refine(rG rfl et T.bz.cl T.bZ lt2 ⟨l,vs2,eX _ rfl ⟨rfl,el2,(by rw[hlen2];show 0<sizeLine;decide),?_⟩⟩)
  have lc:dB H H2 (upd H2 l (.lst (vs2++[.str (strOf wd)]))) l:=eO hn el2
  have ml3:=ml2.append G el2 (bU (H0:=H2) wd) (eU el2) (kp02.grow hR2.cells)
  have hR3:=hR2.bO hR lc
  have kp03:=kp02.bO lc
  refine(eX _ rfl ⟨.inl ⟨rfl,_,aF.of aw⟩,eX _ rfl ?_⟩)
  refine cf hR3 hd hm hT e1 (fun x s k pl hb=>dD hb) fun x p3 e3 hS e4 H4 v4 hR4 kp4 md4=>?_
  have ml4:=ml3.keep (cH a 10) hR.cells kp4
  obtain⟨_,vs4,el4,hlen4⟩:=ml4.cell
  have lc4:dB H H4 (upd H4 l (.lst (vs4++[v4]))) l:=eO hn el4
  refine⟨l,vs4,v4,rfl,rfl,el4,(by rw[hlen4];show 1<sizeLine;decide),eX _ rfl (kk _ _ _ e4 _ _ (hR4.bO hR lc4) ((kp03.trans kp4).bO lc4) ?_)⟩
  refine(ml4.append G el4 md4.xH (eU aw) (kp03.grow hR3.cells)).map fun F q=>⟨_,q,by simp,(by show 2<=4;decide),?_⟩
  exact(hrow x).symm
 ·have e1:gU d (ae b p e)=cU d (ae b p e)>>=fun x=>.ok ((jm (ae b p e),x.1),x.2):=by
   unfold gU
   rw[if_neg c]
  have c':=Bool.eq_false_iff.mpr c
  rw[Bool.or_eq_false_iff]at c'
  refine(eX _ rfl ⟨.inl ⟨rfl,_,aF.of el1⟩,eX _ rfl ?_⟩)
  refine cf hR1 hd hm hT e1 (fun x s k pl hb=>dD hb) fun x p3 e3 hS e4 H4 v4 hR4 kp4 md4=>?_
  have ml4:=ml1.keep (cH a 10) hR.cells kp4
  obtain⟨_,vs4,el4,hlen4⟩:=ml4.cell
  have lc4:dB H H4 (upd H4 l (.lst (vs4++[v4]))) l:=eO hn el4
  refine⟨l,vs4,v4,rfl,rfl,el4,(by rw[hlen4];show 0<sizeLine;decide),eX _ rfl (kk _ _ _ e4 _ _ (hR4.bO hR lc4) ((kp01.trans kp4).bO lc4) ?_)⟩
  refine(ml4.append G el4 md4.xH (eU el1) (kp01.grow hR1.cells)).map fun F q=>⟨_,q,by simp,(by show 1<=4;decide),?_⟩
  show LsWale.itemsText x=kW (jm (ae b p e),x)
  unfold kW jm
  rw[if_neg (by rw[c'.1];decide),if_neg (by rw[c'.2];decide)]
  rfl
def ur(d:Nat)(s:ah):Except Fault ((Bytes×Option LsWale.Sum)×ah):=oldName s.env.blocks s>>=fun x=>if x.2.sums=true then(bg .sum d x.2>>=fun y=>.ok ((x.1,some y.1),y.2))else .ok ((x.1,none),x.2)
def NZ(x:Bytes×Option LsWale.Sum):Bytes:=x.1++(match x.2 with|some y=>32::LsWale.sumText y|none=>[])
theorem ER:aI ["reader","phrase"] ["reader"] (aB xU):=⟨rfl,rfl,rfl,by decide +kernel,rfl,by decide +kernel,by decide +kernel⟩
theorem MF(T:Tx P w K mg a)(N:Nat):cV P w K mg base a 38 a.ro a.su 9 (lH (eR a N) NZ) ur:=by
 refine aE.bx (k:=37) T.Cv.fn ER fh (fun cdv A outer s H vs Q E hr h=>?_)
 obtain⟨b,R,p,d,e,rfl,hR,hd,hm,hT,kk⟩:=fR h
 have C:=T.bE.cl
 have G:=ck a N
 refine⟨_,ai (aY (i:=1) ER.nd rfl (Or.inl rfl) (bH (aa ((aZ (pv 0) C T.iI.mt (vc T) (hr.mono (by first|decide|lia)) T.iI.bd .nil au (aa (bB T.wY) ag))) ag)))
  (ai (a5 (cX (aQ T.yw (DL T) (hr.mono (by first|decide|lia)) aU (aa (cx (pv 0) C T.bX.mt (hU T) (hr.mono (by first|decide|lia)) T.bX.bd .nil au) ag))) (aj (a3 ((dv PySem.F.plainAttrs_list PySem.F.slot_list_append PySem.F.type_list_append eB (pv 1) (aa (aQ T.iH (jD T 9) (hr.mono (by first|decide|lia)) au (aa (pv 0) ag)) ag))))) ba)
  (aj (aN (pv 1)))),?_⟩
 refine(rM rfl hR.ins rfl ?_)
 refine uE (k:=.blocks) hR rfl hT rfl rfl fun y hy H1 hR1 kp1=>⟨(by show 1<=sizeLine;decide),fun l hl=>?_⟩
 dsimp only at hy
 have ml:Md (bG a N) H _ (.ref l) [y]:=aM.list G (aM.cons G (bU (H0:=H) (H:=H1) y) aM.nil) hl (kp1.grow hR1.cells)
 have hR1':=hR1.same (aO (o:=.lst [.str (strOf y)]) hl)
 have kp1':=kp1.trans (bq (aO (o:=.lst [.str (strOf y)]) hl))
 refine(rM rfl hR1'.ins rfl ?_)
 have hb1:∀k pl,HB (ae b (az b p) e) k pl->bJ (ur d (ae b p e)) k pl:=fun k pl hb=>by
  rw[hy,if_neg (by rw[F8 hb];decide)]
  exact dD hb
 refine me (e:=e) hR1' hT hb1 fun nb2 H2 x hR2 kp2 tk2=>?_
 have kp02:=kp1'.trans kp2
 have ml2:=ml.keep (cH a N) hR.cells kp2
 obtain⟨hn,vs2,el2,hlen2⟩:=ml2.cell
 refine⟨b,_,x,rfl,tk2,nb2,eX _ rfl ?_⟩
 rw[C0 b _ .none_ e]
 refine aV (fun c=>?_) (fun c=>?_)
 ·rw[if_pos c]at hy
  refine(eX _ rfl ⟨.inl ⟨rfl,_,aF.of el2⟩,eX _ rfl ?_⟩)
  refine cf hR2 hd hm hT hy (fun x s k pl hb=>dD hb) fun x p3 e3 hS e4 H3 v3 hR3 kp3 md3=>?_
  have ml3:=ml2.keep (cH a N) hR.cells kp3
  obtain⟨_,vs3,el3,hlen3⟩:=ml3.cell
  have lc:dB H H3 (upd H3 l (.lst (vs3++[v3]))) l:=eO hn el3
  refine⟨l,vs3,v3,rfl,rfl,el3,(by rw[hlen3];show 1<sizeLine;decide),eX _ rfl (kk _ _ _ e4 _ _ (hR3.bO hR lc) ((kp02.trans kp3).bO lc) ?_)⟩
  exact(ml3.append G el3 (jv md3) (eU el2) (kp02.grow hR2.cells)).map fun F q=>⟨_,q,by simp,(by show 2<=4;decide),rfl⟩
 ·rw[if_neg c]at hy
  refine(eX _ rfl (kk _ _ _ hy H2 _ hR2 kp02 ?_))
  refine ml2.map fun F q=>⟨_,q,by simp,(by show 1<=4;decide),?_⟩
  show y=y++[]
  rw[List.append_nil]
def iw(d:Nat)(s:ah):Except Fault (LsWale.Stats×ah):=eatOpen '{' d s>>=fun t=>cS (d+1) t>>=fun i=>eatSign '}' i.2>>=fun u=>.ok (i.1,u)
theorem E5{s:ah}{k pl:Nat}(h:HB s k pl)(d:Nat):iw d s=.error ⟨k,pl⟩:=by
 unfold iw
 rw[xw h];rfl
theorem Dg:aI ["reader","stats"] ["reader"] (aB wV):=⟨rfl,rfl,rfl,by decide +kernel,rfl,by decide +kernel,by decide +kernel⟩
theorem Ep(T:Tx P w K mg a){k m n:Nat}(hk:10<=k)(F:cV P w K mg base a k a.lj a.kM m (kJ a n) cS):cV P w K mg base a (k+1) a.mn a.mh (m+1) (kJ a n) iw:=by
 refine aE.bx (k:=k) T.wc.fn Dg fh (fun cdv A outer s H vs Q E hr h=>?_)
 obtain⟨b,R,p,d,e,rfl,hR,hd,hm,hT,kk⟩:=fR h
 have C:=T.bE.cl
 refine⟨_,ai (a3 (aZ (pv 0) C T.lN.mt (Ax T) (hr.mono (by first|decide|lia)) T.lN.bd .nil au (aa aP ag))) (ai (aY (i:=1) Dg.nd rfl (Or.inl rfl) (aQ T.AW F hr au (aa (pv 0) ag))) (ai (a3 (aZ (pv 0) C T.lg.mt (yA T) (hr.mono (by first|decide|lia)) T.lg.bd .nil au (aa aP ag))) (aj (aN (pv 1))))),?_⟩
 refine(rM rfl hR.ins rfl ?_)
 refine ym hR hd hT rfl fun e2 l8 hs H3 hR3 kp3=>(eX _ rfl ?_)
 refine cf (m:=m) hR3 (by lia) (by lia) hT e2 (fun x s k pl hb=>zr hb) fun y p' e' hS e3 H4 v4 hR4 kp4 md4=>?_
 refine(rM rfl hR4.ins rfl ?_)
 exact AD hR4 hT e3 fun e4 H5 hR5 kp5=>(eX _ rfl (kk _ _ _ e4 H5 v4 hR5 ((kp3.trans kp4).trans kp5) ((md4.keep (yY a n) hR3.cells kp5).old (kp3.grow hR3.cells))))
end Wale
end
section
set_option Elab.async false
set_option linter.all false
set_option maxRecDepth 100000
set_option maxHeartbeats 2000000
namespace Wale
open PySem PySem.Spec PyProof.Rows L2
open Wm
open LsWale (ascii Fault eatSign eatWord eatOpen anyName newName oldName markName holdName wanted isName PLAINS)
variable {P:Program}{w:World}{K:PySem.W.Frag}{mg:Str->Option Value}{base:Heap}{a:Ad}
theorem P5{b:Bytes}{p d:Nat}{e:aC}{g:Except Fault ((LsWale.Stats->LsWale.Stats)×ah)}(h:eM d (ae b p e)=some g):cO (ao b p)=true:=by
 by_cases c:cO (ao b p)=true
 ·exact c
 ·unfold eM fg at h
  simp only[Aj c]at h
  cases h
theorem tG:aI ["reader","word","phrase"] ["reader"] (aB xZ):=⟨rfl,rfl,rfl,by decide +kernel,rfl,by decide +kernel,by decide +kernel⟩
theorem Qc(dd p:Nat)(sd:Option Bool)(it:LsWale.Items)(r:LsWale.Stats):LsWale.statsText dd (.row p sd it r)=LsWale.line dd ((ascii "row"++32::kW (sd,it))++[59])++LsWale.statsText dd r:=by
 cases sd with
 |none=>
  show LsWale.line dd (ascii "row "++(LsWale.itemsText it++[59]))++_=LsWale.line dd ((ascii "row"++32::LsWale.itemsText it)++[59])++_
  rw[show ascii "row "=ascii "row"++[32]from rfl]
  simp only[List.append_assoc,List.cons_append,List.nil_append]
 |some t=>
  cases t with
  |true=>
   show LsWale.line dd (ascii "row rs "++(LsWale.itemsText it++[59]))++_=LsWale.line dd ((ascii "row"++32::(ascii "rs "++LsWale.itemsText it))++[59])++_
   rw[show ascii "row rs "=ascii "row"++32::ascii "rs " from rfl]
   simp only[List.append_assoc,List.cons_append,List.nil_append]
  |false=>
   show LsWale.line dd (ascii "row ws "++(LsWale.itemsText it++[59]))++_=LsWale.line dd ((ascii "row"++32::(ascii "ws "++LsWale.itemsText it))++[59])++_
   rw[show ascii "row ws "=ascii "row"++32::ascii "ws " from rfl]
   simp only[List.append_assoc,List.cons_append,List.nil_append]
theorem EA(d:Nat)(w x:Bytes)(fs:List (Nat->List Bytes))(i r:LsWale.Stats)(h:b5 (fs.flatMap fun f=>f (d+1))=LsWale.statsText (d+1) i):
  LsWale.line d (w++32::(x++ascii " {"))++(LsWale.statsText (d+1) i++(LsWale.line d [125]++LsWale.statsText d r))=
   b5 ((LsWale.indent d++(bw [w,x]++ascii " {"))::(fs.flatMap (fun g=>g (d+1))++[LsWale.indent d++[125]]))++LsWale.statsText d r:=by
 rw[<-h]
 show _=((LsWale.indent d++(bw [w,x]++ascii " {"))++[10]++b5 (fs.flatMap (fun g=>g (d+1))++[LsWale.indent d++[125]]))++LsWale.statsText d r
 rw[iY]
 show _=((LsWale.indent d++((w++32::x)++ascii " {"))++[10]++(b5 (fs.flatMap fun g=>g (d+1))++((LsWale.indent d++[125])++[10]++[])))++LsWale.statsText d r
 unfold LsWale.line
 simp only[List.append_assoc,List.cons_append,List.nil_append,List.append_nil]
theorem OM(T:Tx P w K mg a){k m n:Nat}(hk:68<=k)(F:cV P w K mg base a k a.mn a.mh m (kJ a n) iw):t9 P w K mg base a (k+1) a.mN a.mD m (CN a (n+1)) eM:=by
 refine aE.bx (k:=k) T.DR.fn tG AA (fun cdv A outer s H vs Q E hr h=>?_)
 obtain⟨b,R,p,d,e,g,rfl,hR,hd,hm,hg,hT,kk⟩:=yt h
 have C:=T.bE.cl
 have G:=ck a 10
 have GP:=cH a 10
 have hr37:bA (10+3*9) _:=hr.mono (by first|decide|lia)
 refine⟨_,ai (aY (i:=1) tG.nd rfl (Or.inl rfl) (aD (cx (pv 0) C T.cT.mt (jf T) (hr.mono (by first|decide|lia)) T.cT.bd .nil au) rfl))
  (ai (a5 (PW.pt (iL (a6 cq (pv 1) aP (a4 _)) (iZ (a6 cq (pv 1) aP (a4 _)))))
   (ai (aY (i:=2) tG.nd rfl (Or.inl rfl) (bH (aa (pv 1) (aa (aQ T.iH (jD T 9) hr37 au (aa (pv 0) ag)) ag))))
   (aj (aN (eP T.c9.eJ (jw T) (hr.mono (by first|decide|lia)) rfl T.c9.at_ T.iS.2 .nil aU (aa (pv 2) (aa (aQ T.wc F hr au (aa (pv 0) ag)) ag)))))) ba)
  (ai (aY (i:=2) tG.nd rfl (Or.inl rfl) (bH (aa (pv 1) ag)))
  (ai (a5 (a6 cq (pv 1) aP (a4 _)) (aj (a3 ((dv PySem.F.plainAttrs_list PySem.F.slot_list_extend PySem.F.type_list_extend qp (pv 2) (aa (aQ T.GF (La T 10) (hr.mono (by first|decide|lia)) au (aa (pv 0) ag)) ag)))))
   (aj (a5 (a6 cq (pv 1) aP (a4 _)) (aj (a3 ((dv PySem.F.plainAttrs_list PySem.F.slot_list_extend PySem.F.type_list_extend qp (pv 2) (aa (aQ T.Ew (Jz T) (hr.mono (by first|decide|lia)) au (aa (pv 0) ag)) ag)))))
    (aj (a5 (a6 cq (pv 1) aP (a4 _)) (aj (a3 ((dv PySem.F.plainAttrs_list PySem.F.slot_list_extend PySem.F.type_list_extend qp (pv 2) (aa (aQ T.Cv (MF T 10) (hr.mono (by first|decide|lia)) au (aa (pv 0) ag)) ag))))) ba)))))
  (ai (a3 (aZ (pv 0) C T.cQ.mt (ir T) (hr.mono (by first|decide|lia)) T.cQ.bd .nil au (aa aP ag))) (aj (aN (eP T.c9.eJ (jw T) (hr.mono (by first|decide|lia)) rfl T.c9.at_ T.iS.2 .nil aU (aa (pv 2) (aa ij ag))))))))),?_⟩
 have ht:=P5 hg
 refine(rM rfl hR.ins rfl ?_)
 refine iK hR (uv ht) fun H1 x hR1 kp1 tk1=>?_
 obtain⟨dt,ft,et,lt1,lt2,lt3,lt4,lt5⟩:=tk1
 refine(rG rfl et T.bz.cl T.bZ lt2 (eX _ rfl ⟨rfl,eX _ rfl ?_⟩))
 unfold eM fg at hg
 rw[LS,cK ht]at hg
 have again:∀c:((ae b p e).isWord "repeat"||(ae b p e).isWord "until")=true,g=bg .sum d (ae b (az b p) e)>>=fun x=>iw d x.2>>=fun i=>.ok (fun r=>if(ae b p e).isWord "repeat"=true then .again (ae b p e).place x.1 i.1 r else .until_ (ae b p e).place x.1 i.1 r,i.2):=fun c=>by
  have n1:¬(ae b p e).isWord "on"=true:=fun z=>by
   rw[mr z (y:="repeat") (by decide +kernel),mr z (y:="until") (by decide +kernel)]at c;cases c
  have n2:¬(ae b p e).isWord "row"=true:=fun z=>by
   rw[mr z (y:="repeat") (by decide +kernel),mr z (y:="until") (by decide +kernel)]at c;cases c
  rw[if_neg n1,if_neg n2,if_pos c]at hg
  rw[<-Option.some.inj hg]
  unfold iw
  simp only[bN]
  rfl
 -- the end of repeat and until
 have endB:∀{wd:Bytes}{x:a0}{i:LsWale.Stats}{H4 H6:Hp}{l x6 dx6:Addr}{v4:V}{p4:Nat}{e4:aC},Md (bG a 10) H H4 (.ref l) [wd,LsWale.sumText x]->Md (kJ a n) H H4 v4 i->aq a K b R p4 d (lst e4) H4->aH R H H4->aK H4 H6->H4 x6=none->
   H6 x6=some (.ins a.dR dx6 [("phrase",.ref l),("body",v4)])->∀kf:LsWale.Stats->LsWale.Stats,g=.ok (kf,ae b p4 e4)->(∀dd r,LsWale.statsText dd (kf r)=LsWale.line dd (wd++32::(LsWale.sumText x++ascii " {"))++(LsWale.statsText (dd+1) i++(LsWale.line dd [125]++LsWale.statsText dd r)))->Q (.ref x6) H6:=
  fun{wd x i H4 H6 l x6 dx6 v4 p4 e4}mp mb hR4 kp4 sm6 n6 e6 kf hk tx=>by
  obtain⟨F4,⟨fs,hfs,efs,-⟩,s4⟩:=mb
  refine kk _ _ _ hk H6 _ (hR4.same sm6) (kp4.trans (bq sm6)) ?_
  refine(Md.Eu mp ⟨F4,hfs,s4⟩ (kp4.grow hR4.cells) sm6 n6 e6).map fun F q=>⟨_,q,fun dd r=>?_⟩
  rw[tx,EA dd wd _ fs i r (efs (dd+1))]
 -- the end of the others
 have end0:∀{ph:List Bytes}{H4 H6:Hp}{l x6 dx6:Addr}{p4:Nat}{e4:aC},Md (bG a 10) H H4 (.ref l) ph->aq a K b R p4 d (lst e4) H4->aH R H H4->aK H4 H6->H4 x6=none->
   H6 x6=some (.ins a.dR dx6 [("phrase",.ref l),("body",.ax)])->∀kf:LsWale.Stats->LsWale.Stats,g=.ok (kf,ae b p4 e4)->(∀dd r,LsWale.statsText dd (kf r)=LsWale.line dd (bw ph++[59])++LsWale.statsText dd r)->Q (.ref x6) H6:=
  fun{ph H4 H6 l x6 dx6 p4 e4}mp hR4 kp4 sm6 n6 e6 kf hk tx=>by
  refine kk _ _ _ hk H6 _ (hR4.same sm6) (kp4.trans (bq sm6)) ?_
  refine(Md.zz (n:=n+1) mp (kp4.grow hR4.cells) sm6 n6 e6).map fun F q=>⟨_,q,fun dd r=>?_⟩
  rw[tx]
  show _=((LsWale.indent dd++(bw ph++[59]))++[10]++[])++_
  unfold LsWale.line
  simp only[List.append_assoc,List.nil_append,List.append_nil]
 rw[cR,fF (c:="repeat") e]
 refine aV (fun c=>?_) (fun c=>?_)
 ·have cc:((ae b p e).isWord "repeat"||(ae b p e).isWord "until")=true:=by rw[c];rfl
  refine bK (eX _ rfl (eX _ rfl ?_))
  refine cf hR1 hd (by lia) hT (again cc) (fun x s k pl hb=>by rw[E5 hb];exact .inl rfl) fun x p2 e2 hS e3 H2 v2 hR2 kp2 md2=>⟨(by show 2<=sizeLine;decide),fun l hl=>?_⟩
  have kp02:=kp1.trans kp2
  rw[gd c]
  have mp:Md (bG a 10) H _ (.ref l) [ascii "repeat",LsWale.sumText x]:=aM.list G (aM.cons G (bU (H0:=H) (H:=H2) (ascii "repeat")) (aM.cons G (jv (md2.old (kp1.grow hR1.cells))) aM.nil)) hl (kp02.grow hR2.cells)
  have hR3:=hR2.same (aO (o:=.lst [.str (strOf (ascii "repeat")),v2]) hl)
  have kp03:=kp02.trans (bq (aO (o:=.lst [.str (strOf (ascii "repeat")),v2]) hl))
  refine(eX _ rfl (eX _ rfl ?_))
  refine cf hR3 hd hm hT e3 (fun x s k pl hb=>dD hb) fun i p4 e4 hS4 e5 H4 v4 hR4 kp4 md4=>fun x6 dx6 n6 nd6 ne6=>⟨x6,dx6,.ref l,v4,rfl,aw,fun H6 e6 kp6=>⟨rfl,?_⟩⟩
  refine endB (mp.keep GP hR.cells kp4) (md4.old (kp03.grow hR3.cells)) hR4 (kp03.trans kp4) (aK.made n6 nd6 kp6) n6 e6 _ e5 fun dd r=>?_
  dsimp only
  rw[if_pos c]
  rfl
 refine(eX _ rfl ⟨rfl,eX _ rfl ?_⟩)
 rw[cR,fF (c:="until") e]
 refine aV (fun c1=>?_) (fun c1=>?_)
 ·have cc:((ae b p e).isWord "repeat"||(ae b p e).isWord "until")=true:=by rw[c1,Bool.or_true]
  refine(eX _ rfl (eX _ rfl ?_))
  refine cf hR1 hd (by lia) hT (again cc) (fun x s k pl hb=>by rw[E5 hb];exact .inl rfl) fun x p2 e2 hS e3 H2 v2 hR2 kp2 md2=>⟨(by show 2<=sizeLine;decide),fun l hl=>?_⟩
  have kp02:=kp1.trans kp2
  rw[gd c1]
  have mp:Md (bG a 10) H _ (.ref l) [ascii "until",LsWale.sumText x]:=aM.list G (aM.cons G (bU (H0:=H) (H:=H2) (ascii "until")) (aM.cons G (jv (md2.old (kp1.grow hR1.cells))) aM.nil)) hl (kp02.grow hR2.cells)
  have hR3:=hR2.same (aO (o:=.lst [.str (strOf (ascii "until")),v2]) hl)
  have kp03:=kp02.trans (bq (aO (o:=.lst [.str (strOf (ascii "until")),v2]) hl))
  refine(eX _ rfl (eX _ rfl ?_))
  refine cf hR3 hd hm hT e3 (fun x s k pl hb=>dD hb) fun i p4 e4 hS4 e5 H4 v4 hR4 kp4 md4=>fun x6 dx6 n6 nd6 ne6=>⟨x6,dx6,.ref l,v4,rfl,aw,fun H6 e6 kp6=>⟨rfl,?_⟩⟩
  refine endB (mp.keep GP hR.cells kp4) (md4.old (kp03.grow hR3.cells)) hR4 (kp03.trans kp4) (aK.made n6 nd6 kp6) n6 e6 _ e5 fun dd r=>?_
  dsimp only
  rw[if_neg c]
  rfl
 have nru:¬((ae b p e).isWord "repeat"||(ae b p e).isWord "until")=true:=by rw[Bool.eq_false_iff.mpr c,Bool.eq_false_iff.mpr c1];decide
 refine(eX _ rfl ⟨(by show 1<=sizeLine;decide),fun l hl=>?_⟩)
 have hR2:=hR1.same (aO (o:=.lst [.str (bo (ao b p))]) hl)
 have kp02:=kp1.trans (bq (aO (o:=.lst [.str (bo (ao b p))]) hl))
 have g02:=kp02.grow hR2.cells
 have mp:∀{wd:Bytes},bo (ao b p)=strOf wd->Md (bG a 10) H (upd H1 l (.lst [.str (bo (ao b p))])) (.ref l) [wd]:=fun{wd}hw=>by
  rw[hw]
  exact aM.list G (aM.cons G (bU (H0:=H) (H:=H1) wd) aM.nil) hl (kp1.grow hR1.cells)
 have hl0:H l=none:=(kp1.grow hR1.cells).none hl
 -- extend,and what it makes
 have ext:∀{wd:Bytes}{H3:Hp}{v3:V}{t:Bytes}{p3:Nat}{e3:aC},bo (ao b p)=strOf wd->aq a K b R p3 d (lst e3) H3->aH R (upd H1 l (.lst [.str (bo (ao b p))])) H3->Md (eR a 10) (upd H1 l (.lst [.str (bo (ao b p))])) H3 v3 t->
   ∃l3 vs3 ws3,v3=.ref l3/\H3 l=some (.lst vs3)/\H3 l3=some (.lst ws3)/\vs3.length+ws3.length<=sizeLine/\∃ph,bw ph=wd++32::t/\Md (bG a 10) H (upd H3 l (.lst (vs3++ws3))) (.ref l) ph/\aq a K b R p3 d (lst e3) (upd H3 l (.lst (vs3++ws3)))/\aH R H (upd H3 l (.lst (vs3++ws3))):=
  fun{wd H3 v3 t p3 e3}hw hR3 kp3 md3=>by
  obtain⟨F3,⟨gp,hgp,ngp,lgp,egp⟩,sn3⟩:=md3
  have mgp:Md (bG a 10) _ H3 v3 gp:=⟨F3,hgp,sn3⟩
  obtain⟨l3,rfl⟩:=mgp.ref
  obtain⟨_,ws3,em3,hlem3⟩:=mgp.cell
  have mp3:=(mp hw).keep GP hR.cells kp3
  obtain⟨_,vs3,el3,hlen3⟩:=mp3.cell
  have lc:dB H H3 (upd H3 l (.lst (vs3++ws3))) l:=eO hl0 el3
  refine⟨l3,vs3,ws3,rfl,el3,em3,?_,[wd]++gp,?_,mp3.extend G el3 mgp em3 (eU aw) g02,hR3.bO hR lc,(kp02.trans kp3).bO lc⟩
  ·have sz:sizeLine=16777216:=by decide
   rw[hlen3,hlem3]
   show 1+gp.length<=_
   lia
  ·rw[vd (by simp) ngp,egp];rfl
 refine(eX _ rfl ⟨rfl,eX _ rfl ?_⟩)
 rw[cR,fF (c:="on") e]
 refine aV (fun c2=>?_) (fun c2=>?_)
 ·rw[if_pos c2]at hg
  have e1:g=AJ d (ae b (az b p) e)>>=fun x=>eatSign ';' x.2>>=fun t=>.ok (.on (ae b p e).place x.1.1 x.1.2,t):=by
   rw[<-Option.some.inj hg]
   unfold AJ
   rw[bN]
   rfl
  refine(eX _ rfl ⟨.inl ⟨rfl,_,aF.of aw⟩,eX _ rfl ?_⟩)
  refine cf hR2 hd (by lia) hT e1 (fun x s k pl hb=>kF hb) fun y p3 e3 hS e4 H3 v3 hR3 kp3 md3=>?_
  obtain⟨l3,vs3,ws3,rfl,el3,em3,hz,ph,eph,mp4,hR4,kp4⟩:=ext (gd c2) hR3 kp3 md3
  refine⟨l,l3,vs3,ws3,rfl,rfl,el3,em3,hz,rM rfl hR4.ins rfl ?_⟩
  refine gD hR4 hT e4 (k:=fun e5 H5 y5 hR5 kp5 tk5=>(eX _ rfl (fun x6 dx6 n6 nd6 ne6=>⟨x6,dx6,.ref l,.ax,rfl,aw,fun H6 e6 kp6=>⟨rfl,?_⟩⟩)))
  refine end0 (mp4.keep GP hR.cells kp5) hR5 (kp4.trans kp5) (aK.made n6 nd6 kp6) n6 e6 _ e5 fun dd r=>?_
  rw[eph]
  show LsWale.line dd (ascii "on "++(LsWale.sumText y.1++((if y.2=true then ascii " round" else[])++[59])))++_=LsWale.line dd ((ascii "on"++32::(LsWale.sumText y.1++(if y.2=true then ascii " round" else[])))++[59])++_
  rw[show ascii "on "=ascii "on"++[32]from rfl]
  simp only[List.append_assoc,List.cons_append,List.nil_append]
 rw[if_neg c2]at hg
 refine(eX _ rfl ⟨rfl,eX _ rfl ?_⟩)
 rw[cR,fF (c:="row") e]
 refine aV (fun c3=>?_) (fun c3=>?_)
 ·rw[if_pos c3]at hg
  have e1:g=gU d (ae b (az b p) e)>>=fun x=>eatSign ';' x.2>>=fun t=>.ok (.row (ae b p e).place (l9 (ae b p e)) x.1.2,t):=(Option.some.inj hg).symm
  refine(eX _ rfl ⟨.inl ⟨rfl,_,aF.of aw⟩,eX _ rfl ?_⟩)
  refine cf hR2 hd (by lia) hT e1 (fun x s k pl hb=>kF hb) fun y p3 e3 hS e4 H3 v3 hR3 kp3 md3=>?_
  obtain⟨l3,vs3,ws3,rfl,el3,em3,hz,ph,eph,mp4,hR4,kp4⟩:=ext (gd c3) hR3 kp3 md3
  refine⟨l,l3,vs3,ws3,rfl,rfl,el3,em3,hz,rM rfl hR4.ins rfl ?_⟩
  refine gD hR4 hT e4 (k:=fun e5 H5 y5 hR5 kp5 tk5=>(eX _ rfl (fun x6 dx6 n6 nd6 ne6=>⟨x6,dx6,.ref l,.ax,rfl,aw,fun H6 e6 kp6=>⟨rfl,?_⟩⟩)))
  refine end0 (mp4.keep GP hR.cells kp5) hR5 (kp4.trans kp5) (aK.made n6 nd6 kp6) n6 e6 _ e5 fun dd r=>?_
  rw[eph]
  have hside:l9 (ae b p e)=y.1:=by
   unfold gU at hS
   obtain⟨z,_,hz2⟩:=aG hS
   have hz3:=(Prod.mk.inj (Except.ok.inj hz2)).1
   rw[<-hz3]
   unfold l9 jm
   rw[cK ht]
  rw[hside]
  obtain⟨sd,it⟩:=y
  exact Qc dd _ sd it r
 rw[if_neg c3,if_neg nru]at hg
 refine(eX _ rfl ⟨rfl,eX _ rfl ?_⟩)
 rw[cR,fF (c:="work") e]
 refine aV (fun c4=>?_) (fun c4=>?_)
 ·rw[if_pos c4]at hg
  have e1:g=ur d (ae b (az b p) e)>>=fun x=>eatSign ';' x.2>>=fun t=>.ok (.work (ae b p e).place x.1.1 x.1.2,t):=by
   rw[<-Option.some.inj hg]
   unfold ur
   rw[bN]
   refine a8 rfl fun x s hx=>?_
   dsimp only
   by_cases c5:s.sums=true
   ·rw[if_pos c5,if_pos c5,bN];rfl
   ·rw[if_neg c5,if_neg c5];rfl
  refine(eX _ rfl ⟨.inl ⟨rfl,_,aF.of aw⟩,eX _ rfl ?_⟩)
  refine cf hR2 hd (by lia) hT e1 (fun x s k pl hb=>kF hb) fun y p3 e3 hS e4 H3 v3 hR3 kp3 md3=>?_
  obtain⟨l3,vs3,ws3,rfl,el3,em3,hz,ph,eph,mp4,hR4,kp4⟩:=ext (gd c4) hR3 kp3 md3
  refine⟨l,l3,vs3,ws3,rfl,rfl,el3,em3,hz,rM rfl hR4.ins rfl ?_⟩
  refine gD hR4 hT e4 (k:=fun e5 H5 y5 hR5 kp5 tk5=>(eX _ rfl (fun x6 dx6 n6 nd6 ne6=>⟨x6,dx6,.ref l,.ax,rfl,aw,fun H6 e6 kp6=>⟨rfl,?_⟩⟩)))
  refine end0 (mp4.keep GP hR.cells kp5) hR5 (kp4.trans kp5) (aK.made n6 nd6 kp6) n6 e6 _ e5 fun dd r=>?_
  rw[eph]
  show LsWale.line dd (ascii "work "++(y.1++((match y.2 with|some x=>32::LsWale.sumText x|none=>[])++[59])))++_=LsWale.line dd ((ascii "work"++32::(y.1++(match y.2 with|some x=>32::LsWale.sumText x|none=>[])))++[59])++_
  rw[show ascii "work "=ascii "work"++[32]from rfl]
  simp only[List.append_assoc,List.cons_append,List.nil_append]
 rw[if_neg c4]at hg
 by_cases c5:(ae b p e).isWord "off"=true
 ·rw[if_pos c5]at hg
  have e1:=(Option.some.inj hg).symm
  refine(rM rfl hR2.ins rfl ?_)
  refine gD hR2 hT e1 (k:=fun e5 H5 y5 hR5 kp5 tk5=>(eX _ rfl (fun x6 dx6 n6 nd6 ne6=>⟨x6,dx6,.ref l,.ax,rfl,aw,fun H6 e6 kp6=>⟨rfl,?_⟩⟩)))
  exact end0 ((mp (gd c5)).keep GP hR.cells kp5) hR5 (kp02.trans kp5) (aK.made n6 nd6 kp6) n6 e6 _ e5 fun dd r=>rfl
 ·rw[if_neg c5]at hg
  cases hg
end Wale
end
section
set_option Elab.async false
set_option linter.all false
set_option maxRecDepth 100000
set_option maxHeartbeats 2000000
namespace Wale
open PySem PySem.Spec PyProof.Rows L2
open Wm
open LsWale (ascii Fault eatSign eatWord eatOpen anyName newName oldName markName holdName wanted isName PLAINS)
variable {P:Program}{w:World}{K:PySem.W.Frag}{mg:Str->Option Value}{base:Heap}{a:Ad}
theorem Jq{b:Bytes}{p:Nat}(d:Nat)(e:aC):dY (.str (bo (ao b p))) ((["on","row","repeat","until","work","off"]:List Str).map V.str)=(eM d (ae b p e)).isSome:=by
 rw[in_words (e:=e) ["on","row","repeat","until","work","off"] (by decide +kernel) (by decide +kernel)]
 unfold eM fg
 simp only[List.any_cons,List.any_nil,Bool.or_false]
 by_cases h1:(ae b p e).isWord "on"=true
 ·simp[h1]
 by_cases h2:(ae b p e).isWord "row"=true
 ·simp[h1,h2]
 by_cases h3:(ae b p e).isWord "repeat"=true
 ·simp[h1,h2,h3]
 by_cases h4:(ae b p e).isWord "until"=true
 ·simp[h1,h2,h3,h4]
 by_cases h5:(ae b p e).isWord "work"=true
 ·simp[h1,h2,h3,h4,h5]
 by_cases h6:(ae b p e).isWord "off"=true
 ·simp[h1,h2,h3,h4,h5,h6]
 ·simp[h1,h2,h3,h4,h5,h6]
theorem BY:aI ["reader","stats"] ["reader"] (aB zQ):=⟨rfl,rfl,rfl,by decide +kernel,rfl,by decide +kernel,by decide +kernel⟩
def je(d:Nat)(F:LsWale.Stats->LsWale.Stats)(s:ah):Except Fault (LsWale.Stats×ah):=cS d s>>=fun r=>.ok (F r.1,r.2)
theorem GL{s:ah}{k pl d:Nat}{F:LsWale.Stats->LsWale.Stats}(h:HB s k pl):bJ (je d F s) k pl:=by
 unfold je
 rw[BF h]
 exact dD h
theorem MO{d:Nat}{F:LsWale.Stats->LsWale.Stats}{s:ah}{g:Except Fault ((LsWale.Stats->LsWale.Stats)×ah)}(h:eM d s=some g):je d F s=g>>=fun x=>je d (F∘x.1) x.2:=by
 unfold je
 rw[yG,h]
 dsimp only
 simp only[bN]
 rfl
theorem LD{d:Nat}{F:LsWale.Stats->LsWale.Stats}{s:ah}(h:eM d s=none):je d F s=.ok (F .nil,s):=by
 unfold je
 rw[yG,h]
 rfl
theorem O7(T:Tx P w K mg a){k m n:Nat}(hk:10<=k)(F:t9 P w K mg base a k a.mN a.mD m (CN a n) eM):cV P w K mg base a (k+1) a.lj a.kM m (kJ a n) cS:=by
 refine aE.bx (k:=k) T.AW.fn BY fh (fun cdv A outer s H vs Q E hr h=>?_)
 obtain⟨b,R,p,d,e,rfl,hR,hd,hm,hT,kk⟩:=fR h
 have C:=T.bE.cl
 have G:=gE a n
 refine⟨_,ai (aY (i:=1) BY.nd rfl (Or.inl rfl) (bH ag)) (ai (f7 hG (kZ T.IF (aD (cx (pv 0) C T.bX.mt (hU T) (hr.mono (by first|decide|lia)) T.bX.bd .nil au) rfl)) (aj (a3 ((dv PySem.F.plainAttrs_list PySem.F.slot_list_append PySem.F.type_list_append eB (pv 1) (aa (aQ T.DR F hr au (aa (pv 0) ag)) ag)))))) (aj (aN (pv 1)))),?_⟩
 refine⟨(by show 0<=sizeLine;decide),fun l hl=>?_⟩
 have ml:Md (cE (dU a n)) H _ (.ref l) []:=aM.list G aM.nil hl (cp.refl _)
 let I:(LsWale.Stats->LsWale.Stats)×Nat×aC->L2.St->Hp->Prop:=fun i σ H'=>σ=[some (.ref R.r),some (.ref l)]/\aq a K b R i.2.1 d (lst i.2.2) H'/\aH R H H'/\cS d (ae b p e)=je d i.1 (ae b i.2.1 i.2.2)/\
  ∃fs,Md (cE (dU a n)) H H' (.ref l) fs/\(∀dd r,LsWale.statsText dd (i.1 r)=b5 (fs.flatMap fun f=>f dd)++LsWale.statsText dd r)/\fs.length+(toks b i.2.1).length<=(toks b p).length
 let μ:(LsWale.Stats->LsWale.Stats)×Nat×aC->Nat:=fun i=>(toks b i.2.1).length
 refine gx I μ (id,p,e) ⟨rfl,hR.same (aO hl),bq (aO hl),(by unfold je;exact KZ _),[],ml,fun dd r=>rfl,?_⟩ ?_
 ·show 0+(toks b p).length<=(toks b p).length
  lia
 rintro⟨x,p1,e1⟩ σ H2 ⟨rfl,hR2,kp2,h2,fs,ms,tx,ln⟩
 dsimp only at hR2 h2 tx ln
 refine As (e:=e1) T rfl hR2 hT (fun k pl hb=>by rw[h2];exact GL hb) fun nb H3 hR3 kp3=>?_
 have ms3:=ms.keep (bT G) hR.cells kp3
 rw[Jq d e1]
 cases hs:eM d (ae b p1 e1)with
 |some g=>
  rw[MO hs]at h2
  obtain⟨hn,vs3,el3,hlen3⟩:=ms3.cell
  refine bK ?_
  refine fM (I:=I) (μ:=μ) (i:=(x,p1,e1)) ?_
  refine(eX _ rfl ⟨.inl ⟨rfl,_,aF.of el3⟩,eX _ rfl ?_⟩)
  refine wF hR3 hd hm hs hT h2 (fun x s k pl hb=>GL hb) fun x' p2 e2 hS2 h3 H4 v4 hR4 kp4 md4=>?_
  have ms4:=ms3.keep (bT G) hR.cells kp4
  obtain⟨_,vs4,el4,hlen4⟩:=ms4.cell
  obtain⟨F4,⟨f4,hf4,ef4⟩,sn4⟩:=md4
  have lc:dB H H4 (upd H4 l (.lst (vs4++[v4]))) l:=eO hn el4
  have sz:=rS hR.len p
  have l1:=mH (Dp hs) hS2
  refine⟨l,vs4,v4,rfl,rfl,el4,by lia,(x∘x',p2,e2),l1,rfl,hR4.bO hR lc,((kp2.trans kp3).trans kp4).bO lc,h3,fs++[f4],ms4.append G el4 ⟨F4,hf4,sn4⟩ (eU el3) ((kp2.trans kp3).grow hR3.cells),fun dd r=>?_,?_⟩
  ·show LsWale.statsText dd (x (x' r))=_
   rw[tx,ef4,List.flatMap_append,iY,List.append_assoc]
   show _=_++(b5 (f4 dd++[])++_)
   rw[List.append_nil]
  ·show(fs++[f4]).length+(toks b p2).length<=_
   rw[List.length_append,List.length_singleton];lia
 |none=>
  rw[LD hs]at h2
  refine cw (eX _ rfl (kk _ _ _ h2 H3 _ hR3 (kp2.trans kp3) ?_))
  refine ms3.map fun F q=>⟨fs,q,fun dd=>?_,?_⟩
  ·rw[tx]
   show _=_++[]
   rw[List.append_nil]
  ·have:=toks_le b p
   have:=hR.len
   lia
theorem zA(T:Tx P w K mg a):∀m,cV P w K mg base a (70+3*m) a.lj a.kM m (kJ a m) cS
 |0=>wx
 |m+1=>O7 T (k:=70+3*m+1+1) (by lia) (OM T (by lia) (Ep T (by lia) (zA T m)))
def eV(L:NL)(k:Kd)(l:List Bytes):NL:=fun j=>if j=k then l else L j
theorem Bz{L:NL}{k:Kd}{l:List Bytes}{x:Bytes}:dy (eV L k l) k x=eV L k (l++[x]):=by
 funext j
 unfold dy eV
 by_cases h:j=k
 ·rw[if_pos h,if_pos h,if_pos h]
 ·rw[if_neg h,if_neg h,if_neg h]
theorem uU{L:NL}{k:Kd}{l:List Bytes}:eV L k l k=l:=if_pos rfl
theorem K0{L:NL}{k:Kd}:eV L k (L k)=L:=by
 funext j
 unfold eV
 by_cases h:j=k
 ·rw[if_pos h,h]
 ·rw[if_neg h]
theorem GG(e:aC)(x:Bytes):e.told x=true↔∃j,df j=true/\x∈lst e j:=by
 unfold LsWale.Env.told
 simp only[Bool.or_eq_true,List.contains_iff_mem]
 constructor
 ·rintro(h|h|h|h|h)
  ·exact⟨.sizes,rfl,h⟩
  ·exact⟨.yarns,rfl,h⟩
  ·exact⟨.eW,rfl,h⟩
  ·exact⟨.words,rfl,h⟩
  ·exact⟨.blocks,rfl,h⟩
 ·rintro⟨j,hj,h⟩
  cases j with
  |sizes=>exact .inl h
  |yarns=>exact .inr (.inl h)
  |eW=>exact .inr (.inr (.inl h))
  |words=>exact .inr (.inr (.inr (.inl h)))
  |blocks=>exact .inr (.inr (.inr (.inr h)))
  |markers=>cases hj
  |holders=>cases hj
theorem EH{L:NL}{x:Bytes}:¬dF L x↔∃j,df j=true/\x∈L j:=by
 unfold dF
 constructor
 ·intro h
  apply Classical.byContradiction
  intro h2
  exact h fun j hj hx=>h2 ⟨j,hj,hx⟩
 ·rintro⟨j,hj,hx⟩ h
  exact h j hj hx
theorem yZ(e:aC)(x:Bytes):(e.told x=true\/([]:List Bytes).contains x=true)↔¬dF (lst e) x:=by
 rw[EH,GG]
 simp
theorem Fo{e:aC}{k:Kd}{l:List Bytes}(hk:df k=true)(h0:lst e k=[])(x:Bytes):(e.told x=true\/l.contains x=true)↔¬dF (eV (lst e) k l) x:=by
 rw[EH,GG,List.contains_iff_mem]
 constructor
 ·rintro(⟨j,hj,hx⟩|h)
  ·refine⟨j,hj,?_⟩
   unfold eV
   rw[if_neg (fun z=>by rw[z,h0]at hx;cases hx)]
   exact hx
  ·exact⟨k,hk,by rw[uU];exact h⟩
 ·rintro⟨j,hj,hx⟩
  unfold eV at hx
  by_cases h:j=k
  ·rw[if_pos h]at hx;exact .inr hx
  ·rw[if_neg h]at hx;exact .inl ⟨j,hj,hx⟩
def ig(m:Nat)(l:List Bytes)(s:ah):Except Fault (List Bytes×ah):=(if s.isSign ','=true then jR m l s.next else .ok (l,s))>>=fun x=>eatSign ';' x.2>>=fun t=>.ok (x.1,t)
def gM(m:Nat)(s:ah):Except Fault (List Bytes×ah):=jR m [] s>>=fun x=>eatSign ';' x.2>>=fun t=>.ok (x.1,t)
theorem PJ{s:ah}{k pl m:Nat}{l:List Bytes}(h:HB s k pl):bJ (ig m l s) k pl:=by
 unfold ig
 rw[if_neg (by rw[f9 h];decide)]
 exact kF h
theorem Fz(m:Nat)(l:List Bytes)(s:ah):(jR m l s>>=fun x=>eatSign ';' x.2>>=fun t=>(.ok (x.1,t):Except Fault (List Bytes×ah)))=newName l.length m s l>>=fun x=>ig m (l++[x.1]) x.2:=by
 rw[MJ,bN]
 rfl
theorem IU{b:Bytes}{p m:Nat}{e:aC}{l:List Bytes}(h:(ae b p e).isSign ','=true):ig m l (ae b p e)=newName l.length m (ae b (az b p) e) l>>=fun x=>ig m (l++[x.1]) x.2:=by
 rw[<-Fz]
 unfold ig
 rw[if_pos h,cK (gI h)]
theorem J8{s:ah}{m:Nat}{l:List Bytes}(h:s.isSign ','=false):ig m l s=eatSign ';' s>>=fun t=>.ok (l,t):=by
 unfold ig
 rw[if_neg (by rw[h];decide)]
 rfl
theorem N3{vs:List V}{H:Hp}{Q Q':VK}{E:XK}(h:jC K a vs H Q E)(m:∀v H',Q v H'->Q' v H'):jC K a vs H Q' E:=by
 unfold jC at h ⊢
 obtain⟨b,R,p,d,L,k,e,hR,kb,k1,k2⟩:=h
 exact⟨b,R,p,d,L,k,e,hR,kb,k1,fun x hx=>⟨(k2 x hx).1,(k2 x hx).2.1,fun u l H' y hR' kp tk=>m _ _ ((k2 x hx).2.2 u l H' y hR' kp tk)⟩⟩
@[irreducible] def sD(K:PySem.W.Frag)(a:Ad):Sp:=fun vs H Q E=>∃(b0:Bytes)(R:RA)(p0 d0:Nat)(L0:NL)(k:Kd),vs=[.ref R.r,.str (a7 k)]/\aq a K b0 R p0 d0 L0 H/\df k=true/\
 jC K a [.ref R.r,.str (a7 k)] H (fun v H1=>∃(b:Bytes)(p d:Nat)(L:NL)(y:Addr)(x:Bytes)(kd:Str)(n pl af:Int),v=.ref y/\aq a K b R p d L H1/\bY a.bL H1 y kd (strOf x) n pl af/\dF L x/\(L k).length≠bF k/\
  ∀H',aq a K b R p d (dy L k x) H'->aH R H1 H'->Q (.str (strOf x)) H') E
theorem Bj:aI ["reader","kind","name"] ["reader","kind"] (aB xG):=⟨rfl,rfl,rfl,by decide +kernel,rfl,by decide +kernel,by decide +kernel⟩
theorem Cw(T:Tx P w K mg a):ay P w K mg base (bh P w) 11 a.qx a.o5 ["reader","kind"] (sD K a):=by
 refine aE.bx (k:=10) T.zT.fn Bj (fun vs H Q E h=>?_) (fun cdv A outer s H vs Q E hr h=>?_)
 ·unfold sD at h;obtain⟨_,_,_,_,_,_,rfl,_⟩:=h;rfl
 unfold sD at h
 obtain⟨b0,R,p0,d0,L0,k,rfl,hR,hk,hw⟩:=h
 have C:=T.bE.cl
 refine⟨_,ai (aY (i:=2) Bj.nd rfl (Or.inl rfl) ((aZ (pv 0) C T.jk.mt (tS T) (hr.mono (by first|decide|lia)) T.jk.bd .nil au (aa (pv 1) ag))))
  (ai (a3 (aZ (aD (pv 0) rfl) T.cA.cl T.iU.mt (Ds T) (hr.mono (by first|decide|lia)) T.iU.bd .nil aU (aa (pv 2) (aa (pv 1) ag)))) (aj (aN (aD (pv 2) rfl)))),?_⟩
 refine(rM rfl hR.ins rfl (eX _ rfl ?_))
 refine N3 hw ?_
 rintro v H1 ⟨b,p,d,L,y,x,kd,n,pl,af,rfl,hR1,tk1,un,hl,q⟩
 obtain⟨dn,en⟩:=hR1.nm.obj
 refine(rF rfl hR1.ins C T.fP rfl (rN rfl en rfl (eX _ rfl (eX _ rfl ⟨R.N,_,k,y,x,_,_,_,eX _ rfl ⟨hR1.nm,tk1,hk,un,hl,fun H2 nm2 kn2=>?_⟩⟩))))
 obtain⟨dt,ft,et,lt1,lt2,lt3,lt4,lt5⟩:=bY.keepR tk1 hR1 kn2.keepR
 exact(rF rfl et T.bz.cl T.bZ lt2 (q H2 (hR1.names kn2 nm2) kn2.keepR))
theorem Em{α:Type}{b:Bytes}{R:RA}{p d:Nat}{L:NL}{e:aC}{H:Hp}{Q:VK}{E:XK}{r:Except Fault (α×ah)}{k:Kd}{f:Bytes×ah->Except Fault (α×ah)}{m most:Nat}{also:List Bytes}(hR:aq a K b R p d L H)(hT:Tl K a E r)(hr:r=newName m most (ae b p e) also>>=f)(hm:m=(L k).length)(hmost:most=bF k)
  (hu:∀x,(e.told x=true\/also.contains x=true)↔¬dF L x) (hk:df k=true)
  (kk:∀x,nameAt b p=some x->r=f (x,ae b (az b p) e)->∀H':Hp,aq a K b R (az b p) d (dy L k x) H'->aH R H H'->Q (.str (strOf x)) H'):sD K a [.ref R.r,.str (a7 k)] H Q E:=by
 unfold sD
 refine⟨b,R,p,d,L,k,rfl,hR,hk,sQ hR hT hr hm hmost hu fun x hx un hl e1 H1 y hR1 kp1 tk1=>?_⟩
 unfold c7 at tk1
 rw[j2 hx]at tk1
 exact⟨b,_,d,L,y,x,_,_,_,eX _ rfl ⟨hR1,tk1,un,hl,fun H' hR' kp'=>kk x hx e1 H' hR' (kp1.trans kp')⟩⟩
@[irreducible] def pd(K:PySem.W.Frag)(a:Ad):Sp:=fun vs H Q E=>∃(b:Bytes)(R:RA)(p d:Nat)(e:aC)(k:Kd),vs=[.ref R.r,.str (a7 k)]/\aq a K b R p d (lst e) H/\df k=true/\lst e k=[]/\Tl K a E (gM (bF k) (ae b p e))/\
 ∀l p',l≠[]->gM (bF k) (ae b p e)=.ok (l,ae b p' e)->∀(H':Hp)(v:V),aq a K b R p' d (eV (lst e) k l) H'->aH R H H'->Md (gX a (dm a 9)) H H' v (l.map fun x=>[x])->Q v H'
theorem Hb:aI ["reader","kind","phrases"] ["reader","kind"] (aB zK):=⟨rfl,rfl,rfl,by decide +kernel,rfl,by decide +kernel,by decide +kernel⟩
theorem FQ(T:Tx P w K mg a):ay P w K mg base (bh P w) 12 a.rH a.o6 ["reader","kind"] (pd K a):=by
 refine aE.bx (k:=11) T.xM.fn Hb (fun vs H Q E h=>?_) (fun cdv A outer s H vs Q E hr h=>?_)
 ·unfold pd at h;obtain⟨_,_,_,_,_,_,rfl,_⟩:=h;rfl
 unfold pd at h
 obtain⟨b,R,p,d,e,k,rfl,hR,hk,h0,hT,kk⟩:=h
 have C:=T.bE.cl
 have G:=ck a 9
 have GP:=cH a 9
 refine⟨_,ai (aY (i:=2) Hb.nd rfl (Or.inl rfl) (bH (aa (bH (aa (aQ T.zT (Cw T) hr au (aa (pv 0) (aa (pv 1) ag))) ag)) ag)))
  (ai (f7 hG (cX (aZ (pv 0) C T.d5.mt (jI T) (hr.mono (by first|decide|lia)) T.d5.bd .nil au (aa aP ag))) (aj (a3 ((dv PySem.F.plainAttrs_list PySem.F.slot_list_append PySem.F.type_list_append eB (pv 2) (aa (bH (aa (aQ T.zT (Cw T) hr au (aa (pv 0) (aa (pv 1) ag))) ag)) ag))))))
  (ai (a3 (aZ (pv 0) C T.cQ.mt (ir T) (hr.mono (by first|decide|lia)) T.cQ.bd .nil au (aa aP ag))) (aj (aN (eP T.ip.eJ (xT T) (hr.mono (by first|decide|lia)) rfl T.ip.at_ T.uF.2 .nil aU (aa (pv 2) ag)))))),?_⟩
 have e0:gM (bF k) (ae b p e)=newName ([]:List Bytes).length (bF k) (ae b p e) []>>=fun x=>ig (bF k) ([]++[x.1]) x.2:=Fz _ _ _
 have hR0:aq a K b R p d (eV (lst e) k []) H:=by rw[<-h0,K0];exact hR
 refine(eX _ rfl (eX _ rfl ?_))
 refine Em (k:=k) hR0 hT e0 (by rw[uU]) rfl (Fo hk h0) hk fun x hx e1 H2 hR2 kp2=>⟨(by show 1<=sizeLine;decide),fun l1 hl1=>⟨(by show 1<=sizeLine;decide),fun l hl=>?_⟩⟩
 rw[Bz]at hR2
 have g2:=kp2.grow hR2.cells
 have m1:Md (bG a 9) H (upd H2 l1 (.lst [.str (strOf x)])) (.ref l1) [x]:=aM.list G (aM.cons G (bU (H0:=H) (H:=H2) x) aM.nil) hl1 g2
 have ml:=aM.list GP (aM.cons GP m1 aM.nil) hl (g2.trans sh)
 let I:List Bytes×Nat->L2.St->Hp->Prop:=fun i σ H'=>σ=[some (.ref R.r),some (.str (a7 k)),some (.ref l)]/\i.1≠[]/\aq a K b R i.2 d (eV (lst e) k i.1) H'/\aH R H H'/\gM (bF k) (ae b p e)=ig (bF k) i.1 (ae b i.2 e)/\Md (cE (bG a 9)) H H' (.ref l) (i.1.map fun x=>[x])
 let μ:List Bytes×Nat->Nat:=fun i=>(toks b i.2).length
 refine gx I μ ([]++[x],az b p) ⟨rfl,(by simp),(hR2.same (aO hl1)).same (aO hl),(kp2.trans (bq (aO hl1))).trans (bq (aO hl)),e1,ml⟩ ?_
 rintro⟨nl,p1⟩ σ H3 ⟨rfl,hne,hR3,kp3,h3,ms⟩
 dsimp only at hR3 h3 hne ms
 refine(rM rfl hR3.ins rfl ?_)
 refine AR (c:=',') (e:=e) hR3 hT (fun k pl hb=>by rw[h3];exact PJ hb) (fun c H4 hR4 kp4=>?_) (fun c nb H4 hR4 kp4=>?_)
 ·rw[IU c]at h3
  have ms4:=ms.keep (bT GP) hR.cells kp4
  obtain⟨hn,vs4,el4,hlen4⟩:=ms4.cell
  refine(eX _ rfl (bK ?_))
  refine fM (I:=I) (μ:=μ) (i:=(nl,p1)) ?_
  refine(eX _ rfl ⟨.inl ⟨rfl,_,aF.of el4⟩,eX _ rfl (eX _ rfl ?_)⟩)
  refine Em (k:=k) hR4 hT h3 (by rw[uU]) rfl (Fo hk h0) hk fun x' hx' e4 H6 hR6 kp6=>⟨(by show 1<=sizeLine;decide),fun l6 hl6=>?_⟩
  rw[Bz]at hR6
  have kp04:=kp3.trans kp4
  have g46:=kp6.grow hR6.cells
  have m6:Md (bG a 9) H4 (upd H6 l6 (.lst [.str (strOf x')])) (.ref l6) [x']:=aM.list G (aM.cons G (bU (H0:=H4) (H:=H6) x') aM.nil) hl6 g46
  have ms6:=(ms4.keep (bT GP) hR.cells kp6).same (bT GP) (aO (o:=.lst [.str (strOf x')]) hl6)
  obtain⟨_,vs6,el6,hlen6⟩:=ms6.cell
  have hR7:=hR6.same (aO (o:=.lst [.str (strOf x')]) hl6)
  have kp07:=(kp04.trans kp6).trans (bq (aO (o:=.lst [.str (strOf x')]) hl6))
  have lc:dB H (upd H6 l6 (.lst [.str (strOf x')])) (upd (upd H6 l6 (.lst [.str (strOf x')])) l (.lst (vs6++[.ref l6]))) l:=eO hn el6
  have bd:=hR3.nm.bd k
  rw[uU]at bd
  have hb:bF k<=256:=by cases k<;>decide
  have sz:sizeLine=16777216:=by decide
  rw[List.length_map]at hlen6
  refine⟨l,vs6,.ref l6,rfl,rfl,el6,by lia,(nl++[x'],az b (az b p1)),?_,rfl,(by simp),hR7.bO hR lc,kp07.bO lc,e4,?_⟩
  ·have l1:=oP (gI c)
   have l2:=oP (b:=b) (p:=az b p1) (by rw[(tX hx').1];rfl)
   show(toks b (az b (az b p1))).length<(toks b p1).length
   lia
  ·show Md _ _ _ _ ((nl++[x']).map fun x=>[x])
   rw[List.map_append]
   exact ms6.append GP el6 m6 (eU el4) (kp04.grow hR4.cells)
 ·rw[J8 c]at h3
  refine(eX _ rfl (cw (rM rfl hR4.ins rfl ?_)))
  refine gD hR4 hT h3 (k:=fun e5 H5 y5 hR5 kp5 tk5=>(eX _ rfl (fun x6 dx6 n6 nd6 ne6=>⟨x6,dx6,.ref l,rfl,aw,fun H6 e6 kp6=>⟨rfl,?_⟩⟩)))
  have sm6:=aK.made n6 nd6 kp6
  have kp05:=(kp3.trans kp4).trans kp5
  exact kk nl _ hne e5 H6 _ (hR5.same sm6) (kp05.trans (bq sm6)) (Md.listed G (ms.keep (bT GP) hR.cells (kp4.trans kp5)) (kp05.grow hR5.cells) sm6 n6 e6)
end Wale
end
section
set_option Elab.async false
set_option linter.all false
set_option maxRecDepth 100000
set_option maxHeartbeats 2000000
namespace Wale
open PySem PySem.Spec PyProof.Rows L2
open Wm
open LsWale (ascii Fault eatSign eatWord eatOpen anyName newName oldName markName holdName wanted isName PLAINS)
variable {P:Program}{w:World}{K:PySem.W.Frag}{mg:Str->Option Value}{base:Heap}{a:Ad}
@[irreducible] def uA(a:Ad):Sp:=Br a
@[irreducible] def tE(a:Ad):Sp:=Gj a
theorem vk(T:Tx P w K mg a):ay P w K mg base aW 1 a.oR a.oo ["self","kind"] (uA a):=by unfold uA;exact vU T
theorem yD(T:Tx P w K mg a):ay P w K mg base aW 2 a.nU a.oN ["self","token","kind"] (tE a):=by unfold tE;exact Ds T
theorem t8{b:Bytes}{R:RA}{p d:Nat}{L:NL}{H:Hp}{Q:VK}(hR:aq a K b R p d L H)(k:Kd)(q:Q (.int (L k).length) H):uA a [.ref R.N.n,.str (a7 k)] H Q E0:=by
 obtain⟨dx,e0⟩:=hR.nm.obj
 obtain⟨kvs,e1,h1,-⟩:=hR.nm.gj
 unfold uA
 exact⟨R.N,dx,kvs,a7 k,eX _ rfl ⟨e0,e1,h1 k,q⟩⟩
theorem vG{b:Bytes}{R:RA}{p d:Nat}{L:NL}{H:Hp}{Q:VK}{y:Addr}{x:Bytes}{kd:Str}{n pl af:Int}(hR:aq a K b R p d L H)(k:Kd)(tk:bY a.bL H y kd (strOf x) n pl af)(hk:df k=true)(un:dF L x)(hl:(L k).length≠bF k)
  (kk:∀H':Hp,aq a K b R p d (dy L k x) H'->aH R H H'->Q .ax H'):tE a [.ref R.N.n,.ref y,.str (a7 k)] H Q E0:=by
 unfold tE
 exact⟨R.N,L,k,y,x,kd,n,pl,af,rfl,hR.nm,tk,hk,un,hl,fun H' nm kn=>kk H' (hR.names kn nm) kn.keepR⟩
theorem Cf{α:Type}{b:Bytes}{R:RA}{p d:Nat}{e:aC}{H:Hp}{Q:VK}{E:XK}{r:Except Fault (α×ah)}{f:List Bytes×ah->Except Fault (α×ah)}(hR:aq a K b R p d (lst e) H)(k:Kd)(hk:df k=true)(h0:lst e k=[])(hT:Tl K a E r)(hr:r=gM (bF k) (ae b p e)>>=f)(hB:∀x s k pl,HB s k pl->bJ (f (x,s)) k pl)
  (kk:∀l p',l≠[]->r=f (l,ae b p' e)->∀(H':Hp)(v:V),aq a K b R p' d (eV (lst e) k l) H'->aH R H H'->Md (gX a (dm a 9)) H H' v (l.map fun x=>[x])->Q v H'):pd K a [.ref R.r,.str (a7 k)] H Q E:=by
 unfold pd
 exact⟨b,R,p,d,e,k,rfl,hR,hk,h0,fun k pl h=>hT k pl (by rw[hr];exact h.bind fun x s hb=>hB x s k pl hb),fun l p' hl hS=>kk l p' hl (by rw[hr,hS];rfl)⟩
def iO(a:Ad):Rep LsWale.Head:=fun H F v h=>∃f,dU a 9 H F v f/\LsWale.headText h=b5 (f 0)
theorem Md.ub{H0 H H':Hp}{u:V}{ph:List Bytes}{x dx:Addr}{h:LsWale.Head}(m:Md (bG a 10) H0 H u ph)(g:cp H0 H)(s:aK H H')(nx:H x=none)(e:H' x=some (.ins a.dR dx [("phrase",u),("body",.ax)]))(tx:LsWale.headText h=LsWale.line 0 (bw ph++[59])):Md (iO a) H0 H' (.ref x) h:=by
 refine(Md.zz (n:=9) m g s nx e).map fun F q=>⟨_,q,?_⟩
 rw[tx]
 show _=((LsWale.indent 0++(bw ph++[59]))++[10]++[])
 unfold LsWale.line
 simp only[List.append_assoc,List.append_nil]
theorem D7(l:List Bytes):dh (l.map fun x=>[x])=LsWale.commas l:=by
 unfold dh
 rw[List.map_map]
 congr 1
 exact List.map_id' l
theorem Md.yE{n:Nat}{H0 H:Hp}{v:V}{ps:List (List Bytes)}(m:Md (gX a (dm a n)) H0 H v ps):Md (dm a (n+1)) H0 H v (dh ps):=m.map fun F q=>Or.inr (Or.inl ⟨ps,q,rfl⟩)
theorem ON:("sizes":Str)=strOf (ascii "sizes"):=by decide +kernel
theorem Ox:("yarns":Str)=strOf (ascii "yarns"):=by decide +kernel
theorem Lf:("let":Str)=strOf (ascii "let"):=by decide +kernel
theorem IQ:("word":Str)=strOf (ascii "word"):=by decide +kernel
theorem Ji:("block":Str)=strOf (ascii "block"):=by decide +kernel
theorem FP:("=":Str)=strOf (ascii "="):=by decide +kernel
def Ev(e:aC):Prop:=e.sizes≠some []/\e.yarns≠some []
theorem yz{s:ah}{k pl:Nat}{e:aC}(h:HB s k pl):HB ({s with env:=e}:ah) k pl:=h
theorem Qq(e:aC)(l:List Bytes):eV (lst e) .sizes l=lst {e with sizes:=some l}:=by funext j;cases j<;>rfl
theorem LZ(e:aC)(l:List Bytes):eV (lst e) .yarns l=lst {e with yarns:=some l}:=by funext j;cases j<;>rfl
theorem tf{o:Option (List Bytes)}(h:o≠some []):(0<(o.getD []).length)↔o.isSome=true:=by
 cases o with
 |none=>simp
 |some l=>
  cases l with
  |nil=>exact absurd rfl h
  |cons c r=>simp
def rb(pl:Nat)(s:ah):Except Fault (LsWale.Head×ah):=if s.env.sizes.isSome=true\/s.env.lets≠[]then .error ⟨5,pl⟩else gM 16 s>>=fun x=>.ok (.sizes x.1,{x.2 with env:={x.2.env with sizes:=some x.1}})
def pV(pl:Nat)(s:ah):Except Fault (LsWale.Head×ah):=if s.env.yarns.isSome=true then .error ⟨5,pl⟩else gM 16 s>>=fun x=>.ok (.yarns x.1,{x.2 with env:={x.2.env with yarns:=some x.1}})
@[irreducible] def j5(K:PySem.W.Frag)(a:Ad)(S:Nat->ah->Except Fault (LsWale.Head×ah)):Sp:=fun vs H Q E=>∃(b:Bytes)(R:RA)(p:Nat)(e:aC)(x:Addr),vs=[.ref R.r,.ref x]/\aq a K b R (az b p) 0 (lst e) H/\c7 a b p H x/\Ev e/\
 Tl K a E (S (aS b p) (ae b (az b p) e))/\∀x p' e',Ev e'->S (aS b p) (ae b (az b p) e)=.ok (x,ae b p' e')->∀(H':Hp)(v:V),aq a K b R p' 0 (lst e') H'->aH R H H'->Md (iO a) H H' v x->Q v H'
theorem FO{S:Nat->ah->Except Fault (LsWale.Head×ah)}(vs:List V)(H:Hp)(Q:VK)(E:XK)(h:j5 K a S vs H Q E):vs.length=2:=by
 unfold j5 at h
 obtain⟨_,_,_,_,_,rfl,_⟩:=h;rfl
theorem MS:aI ["reader","token"] ["reader","token"] (aB AG):=⟨rfl,rfl,rfl,by decide +kernel,rfl,by decide +kernel,by decide +kernel⟩
theorem LK:aI ["reader","token"] ["reader","token"] (aB wa):=⟨rfl,rfl,rfl,by decide +kernel,rfl,by decide +kernel,by decide +kernel⟩
theorem N6(T:Tx P w K mg a):ay P w K mg base (bh P w) 13 a.qS a.si ["reader","token"] (j5 K a rb):=by
 refine aE.bx (k:=12) T.Cb.fn MS FO (fun cdv A outer s H vs Q E hr h=>?_)
 unfold j5 at h
 obtain⟨b,R,p,e,x,rfl,hR,tk,ev,hT,kk⟩:=h
 have C:=T.bE.cl
 refine⟨_,ai (a5 (PW.pt (iL (a6 jU ((aZ (aD (pv 0) rfl) T.cA.cl T.eS.mt (vk T) (hr.mono (by first|decide|lia)) T.eS.bd .nil aU (aa (bB T.AY) ag))) bW (a4 _)) (iZ (a6 jU ((aZ (aD (pv 0) rfl) T.cA.cl T.eS.mt (vk T) (hr.mono (by first|decide|lia)) T.eS.bd .nil aU (aa (bB T.ui) ag))) bW (a4 _)))))
   (aj (eY rfl fj T.mE (xE T) T.uk.2 (hr.mono (by first|decide|lia)) (aD (pv 1) rfl))) ba)
  (aj (aN (eP T.c9.eJ (jw T) (hr.mono (by first|decide|lia)) rfl T.c9.at_ T.iS.2 .nil aU (aa (bH (aa aP (aa (aQ T.xM (FQ T) hr au (aa (pv 0) (aa (bB T.AY) ag))) ag))) (aa ij ag))))),?_⟩
 obtain⟨dn,en⟩:=hR.nm.obj
 obtain⟨dt,ft,et,lt1,lt2,lt3,lt4,lt5⟩:=tk
 have bad:∀lo,(e.sizes.isSome=true\/e.lets≠[])->nB lo K a.nV E 5 (oO K (bD 1) "place") {nx:=fun _ H'=>Q .ax H',rt:=Q} [some (.ref R.r),some (.ref x)] H:=fun lo hc=>
  (rF rfl et T.bz.cl T.gL lt4 (eA T.mE (hT.err (by unfold rb;rw[if_pos hc]))))
 refine(rF rfl hR.ins C T.fP rfl (rN rfl en rfl ?_))
 refine t8 hR .sizes ⟨_,_,rfl,rfl,_,rfl,?_⟩
 refine aV (fun c=>?_) (fun c=>?_)
 ·have c':0<(e.sizes.getD []).length:=by have:=of_decide_eq_true c;have h:(0:Int)<((e.sizes.getD []).length:Int):=this;lia
  exact bK (bad _ (.inl ((tf ev.1).mp c')))
 have n1:¬e.sizes.isSome=true:=fun z=>c (decide_eq_true (by
  have:=(tf ev.1).mpr z
  show(0:Int)<((e.sizes.getD []).length:Int)
  lia))
 refine(rF rfl hR.ins C T.fP rfl (rN rfl en rfl ?_))
 refine t8 hR .eW ⟨_,_,rfl,rfl,_,rfl,?_⟩
 refine aV (fun c=>?_) (fun c=>?_)
 ·refine bad _ (.inr fun z=>?_)
  have:=of_decide_eq_true c
  have h:(0:Int)<((e.lets).length:Int):=this
  rw[z]at h
  simp at h
 have n2:e.lets=[]:=by
  have h:¬(0:Int)<((e.lets).length:Int):=fun z=>c (decide_eq_true z)
  exact List.length_eq_zero_iff.mp (by lia)
 have e1:rb (aS b p) (ae b (az b p) e)=gM (bF .sizes) (ae b (az b p) e)>>=fun x=>.ok (.sizes x.1,{x.2 with env:={x.2.env with sizes:=some x.1}}):=by
  unfold rb
  rw[if_neg (fun z=>z.elim n1 fun z=>z n2)]
  rfl
 refine(eX _ rfl ?_)
 refine Cf hR .sizes rfl ?_ hT e1 (fun x s k pl hb=>dD (yz hb)) fun l p' hl e2 H' v' hR' kp md'=>⟨(by show 2<=sizeLine;decide),fun q hq=>fun x6 dx6 n6 nd6 ne6=>⟨x6,dx6,.ref q,.ax,rfl,aw,fun H6 e6 kp6=>⟨rfl,?_⟩⟩⟩
 ·show e.sizes.getD []=[]
  cases q:e.sizes with
  |none=>rfl
  |some l=>rw[q]at n1;exact absurd rfl n1
 ·rw[Qq]at hR'
  have G:=ck a 10
  have sm6:=aK.made n6 nd6 kp6
  have hR5:=hR'.same (aO (o:=.lst [.str "sizes",v']) hq)
  have kp5:=kp.trans (bq (aO (o:=.lst [.str "sizes",v']) hq))
  have mp:Md (bG a 10) H (upd H' q (.lst [.str "sizes",v'])) (.ref q) [ascii "sizes",dh (l.map fun x=>[x])]:=by
   rw[ON]
   exact aM.list G (aM.cons G (bU (H0:=H) (H:=H') (ascii "sizes")) (aM.cons G md'.yE aM.nil)) hq (kp.grow hR'.cells)
  exact kk _ _ {e with sizes:=some l} ⟨fun z=>hl (Option.some.inj z),ev.2⟩ e2 H6 _ (hR5.same sm6) (kp5.trans (bq sm6)) (Md.ub mp (kp5.grow hR5.cells) sm6 n6 e6 (by rw[D7];rfl))
theorem MH(T:Tx P w K mg a):ay P w K mg base (bh P w) 13 a.rh a.pF ["reader","token"] (j5 K a pV):=by
 refine aE.bx (k:=12) T.GA.fn LK FO (fun cdv A outer s H vs Q E hr h=>?_)
 unfold j5 at h
 obtain⟨b,R,p,e,x,rfl,hR,tk,ev,hT,kk⟩:=h
 have C:=T.bE.cl
 refine⟨_,ai (a5 (a6 jU ((aZ (aD (pv 0) rfl) T.cA.cl T.eS.mt (vk T) (hr.mono (by first|decide|lia)) T.eS.bd .nil aU (aa (bB T.ya) ag))) bW (a4 _))
   (aj (eY rfl fj T.mE (xE T) T.uk.2 (hr.mono (by first|decide|lia)) (aD (pv 1) rfl))) ba)
  (aj (aN (eP T.c9.eJ (jw T) (hr.mono (by first|decide|lia)) rfl T.c9.at_ T.iS.2 .nil aU (aa (bH (aa aP (aa (aQ T.xM (FQ T) hr au (aa (pv 0) (aa (bB T.ya) ag))) ag))) (aa ij ag))))),?_⟩
 obtain⟨dn,en⟩:=hR.nm.obj
 obtain⟨dt,ft,et,lt1,lt2,lt3,lt4,lt5⟩:=tk
 refine(rF rfl hR.ins C T.fP rfl (rN rfl en rfl ?_))
 refine t8 hR .yarns ⟨_,_,rfl,rfl,_,rfl,?_⟩
 refine aV (fun c=>?_) (fun c=>?_)
 ·have c':0<(e.yarns.getD []).length:=by have:=of_decide_eq_true c;have h:(0:Int)<((e.yarns.getD []).length:Int):=this;lia
  exact(rF rfl et T.bz.cl T.gL lt4 (eA T.mE (hT.err (by unfold pV;rw[if_pos ((tf ev.2).mp c')]))))
 have n1:¬e.yarns.isSome=true:=fun z=>c (decide_eq_true (by
  have:=(tf ev.2).mpr z
  show(0:Int)<((e.yarns.getD []).length:Int)
  lia))
 have e1:pV (aS b p) (ae b (az b p) e)=gM (bF .yarns) (ae b (az b p) e)>>=fun x=>.ok (.yarns x.1,{x.2 with env:={x.2.env with yarns:=some x.1}}):=by
  unfold pV
  rw[if_neg n1]
  rfl
 refine(eX _ rfl ?_)
 refine Cf hR .yarns rfl ?_ hT e1 (fun x s k pl hb=>dD (yz hb)) fun l p' hl e2 H' v' hR' kp md'=>⟨(by show 2<=sizeLine;decide),fun q hq=>fun x6 dx6 n6 nd6 ne6=>⟨x6,dx6,.ref q,.ax,rfl,aw,fun H6 e6 kp6=>⟨rfl,?_⟩⟩⟩
 ·show e.yarns.getD []=[]
  cases q:e.yarns with
  |none=>rfl
  |some l=>rw[q]at n1;exact absurd rfl n1
 ·rw[LZ]at hR'
  have G:=ck a 10
  have sm6:=aK.made n6 nd6 kp6
  have hR5:=hR'.same (aO (o:=.lst [.str "yarns",v']) hq)
  have kp5:=kp.trans (bq (aO (o:=.lst [.str "yarns",v']) hq))
  have mp:Md (bG a 10) H (upd H' q (.lst [.str "yarns",v'])) (.ref q) [ascii "yarns",dh (l.map fun x=>[x])]:=by
   rw[Ox]
   exact aM.list G (aM.cons G (bU (H0:=H) (H:=H') (ascii "yarns")) (aM.cons G md'.yE aM.nil)) hq (kp.grow hR'.cells)
  exact kk _ _ {e with yarns:=some l} ⟨ev.1,fun z=>hl (Option.some.inj z)⟩ e2 H6 _ (hR5.same sm6) (kp5.trans (bq sm6)) (Md.ub mp (kp5.grow hR5.cells) sm6 n6 e6 (by rw[D7];rfl))
@[irreducible] def iq(K:PySem.W.Frag)(a:Ad)(S:ah->Except Fault (LsWale.Head×ah)):Sp:=fun vs H Q E=>∃(b:Bytes)(R:RA)(p:Nat)(e:aC),vs=[.ref R.r]/\aq a K b R p 0 (lst e) H/\Ev e/\
 Tl K a E (S (ae b p e))/\∀x p' e',Ev e'->S (ae b p e)=.ok (x,ae b p' e')->∀(H':Hp)(v:V),aq a K b R p' 0 (lst e') H'->aH R H H'->Md (iO a) H H' v x->Q v H'
theorem xO{S:ah->Except Fault (LsWale.Head×ah)}(vs:List V)(H:Hp)(Q:VK)(E:XK)(h:iq K a S vs H Q E):vs.length=1:=by
 unfold iq at h
 obtain⟨_,_,_,_,rfl,_⟩:=h;rfl
theorem mx{e e':aC}(h:cZ e e'){j:Kd}(hj:df j=true):lst e' j=lst e j:=by
 obtain⟨h1,h2,h3,h4,h5⟩:=h
 cases j with
 |sizes=>show e'.sizes.getD []=e.sizes.getD [];rw[h1]
 |yarns=>show e'.yarns.getD []=e.yarns.getD [];rw[h2]
 |eW=>exact h3
 |words=>exact h4
 |blocks=>exact h5
 |markers=>cases hj
 |holders=>cases hj
theorem Aw{e e':aC}(h:cZ e e')(ev:Ev e):Ev e':=⟨by rw[h.1];exact ev.1,by rw[h.2.1];exact ev.2⟩
theorem vz{e e':aC}(h:cZ e e'){x:Bytes}(u:dF (lst e) x):dF (lst e') x:=fun j hj=>by rw[mx h hj];exact u j hj
def Dv(s:ah):Except Fault (LsWale.Head×ah):=newName s.env.blocks.length 64 s []>>=fun n=>iw 0 n.2>>=fun x=>.ok (.block n.1 x.1,{x.2 with env:={x.2.env with blocks:=x.2.env.blocks++[n.1]}})
def Hw(s:ah):Except Fault (LsWale.Head×ah):=newName s.env.words.length 64 s []>>=fun n=>eatSign '=' n.2>>=fun t=>cU 0 t>>=fun x=>eatSign ';' x.2>>=fun u=>.ok (.word n.1 x.1,{u with env:={u.env with words:=u.env.words++[n.1]}})
def zg(s:ah):Except Fault (LsWale.Head×ah):=newName s.env.lets.length 256 s []>>=fun n=>eatSign '=' n.2>>=fun t=>jt t>>=fun x=>eatSign ';' x.2>>=fun u=>
 if x.1.length≠1/\x.1.length≠s.env.many then .error ⟨7,s.place⟩else .ok (.let_ n.1 x.1,{u with env:={u.env with lets:=u.env.lets++[n.1]}})
theorem K6(e:aC)(x:Bytes):dy (lst e) .blocks x=lst {e with blocks:=e.blocks++[x]}:=by funext j;cases j<;>rfl
theorem J0(e:aC)(x:Bytes):dy (lst e) .words x=lst {e with words:=e.words++[x]}:=by funext j;cases j<;>rfl
theorem MV(e:aC)(x:Bytes):dy (lst e) .eW x=lst {e with lets:=e.lets++[x]}:=by funext j;cases j<;>rfl
theorem IC(d:Nat)(s:ah):Ke s.env (iw d s):=by
 unfold iw
 exact dM.bind fun t h1=>Ke.bind fun i u h2=>dM.bind fun v h3=>bM (((tW t h1).trans (Iv _ _ i u h2)).trans (iA v h3))
theorem xm:aI ["reader","name","body"] ["reader"] (aB yB):=⟨rfl,rfl,rfl,by decide +kernel,rfl,by decide +kernel,by decide +kernel⟩
theorem J9(T:Tx P w K mg a):ay P w K mg base (bh P w) 96 a.rT a.rW ["reader"] (iq K a Dv):=by
 refine aE.bx (k:=95) T.CP.fn xm xO (fun cdv A outer s H vs Q E hr h=>?_)
 unfold iq at h
 obtain⟨b,R,p,e,rfl,hR,ev,hT,kk⟩:=h
 have C:=T.bE.cl
 have G:=ck a 10
 refine⟨_,ai (aY (i:=1) xm.nd rfl (Or.inl rfl) ((aZ (pv 0) C T.jk.mt (tS T) (hr.mono (by first|decide|lia)) T.jk.bd .nil au (aa (bB T.wY) ag))))
  (ai (aY (i:=2) xm.nd rfl (Or.inl rfl) (aQ T.wc (Ep T (by lia) (zA T 8)) hr au (aa (pv 0) ag))) (ai (a3 ((aZ (aD (pv 0) rfl) T.cA.cl T.iU.mt (yD T) (hr.mono (by first|decide|lia)) T.iU.bd .nil aU (aa (pv 1) (aa (bB T.wY) ag)))))
  (aj (aN (eP T.c9.eJ (jw T) (hr.mono (by first|decide|lia)) rfl T.c9.at_ T.iS.2 .nil aU (aa (bH (aa aP (aa (aD (pv 1) rfl) ag))) (aa (pv 2) ag))))))),?_⟩
 refine(rM rfl hR.ins rfl ?_)
 refine sQ (k:=.blocks) hR hT rfl rfl rfl (yZ e) fun x hx un hl e1 H1 y hR1 kp1 tk1=>?_
 unfold c7 at tk1
 rw[j2 hx]at tk1
 refine(eX _ rfl ?_)
 refine cf (m:=9) hR1 (by lia) (by lia) hT e1 (fun x s k pl hb=>dD (yz hb)) fun x2 p2 e2 hS e3 H2 v2 hR2 kp2 md2=>?_
 have sm:cZ e e2:=IC 0 _ _ _ hS
 have tk2:=bY.keepR tk1 hR1 kp2
 obtain⟨dn,en⟩:=hR2.nm.obj
 refine(rF rfl hR2.ins C T.fP rfl (rN rfl en rfl (eX _ rfl ?_)))
 refine vG hR2 .blocks tk2 rfl (vz sm un) (by rw[mx sm rfl];exact hl) fun H3 hR3 kp3=>?_
 obtain⟨dt,ft,et,lt1,lt2,lt3,lt4,lt5⟩:=bY.keepR tk2 hR2 kp3
 have kp03:=(kp1.trans kp2).trans kp3
 refine(rF rfl et T.bz.cl T.bZ lt2 ⟨(by show 2<=sizeLine;decide),fun q hq=>(eX _ rfl (fun x6 dx6 n6 nd6 ne6=>⟨x6,dx6,.ref q,v2,rfl,aw,fun H6 e6 kp6=>⟨rfl,?_⟩⟩))⟩)
 rw[K6]at hR3
 have sm6:=aK.made n6 nd6 kp6
 have hR5:=hR3.same (aO (o:=.lst [.str "block",.str (strOf x)]) hq)
 have kp5:=kp03.trans (bq (aO (o:=.lst [.str "block",.str (strOf x)]) hq))
 have mp:Md (bG a 10) H (upd H3 q (.lst [.str "block",.str (strOf x)])) (.ref q) [ascii "block",x]:=by
  rw[Ji]
  exact aM.list G (aM.cons G (bU (H0:=H) (H:=H3) (ascii "block")) (aM.cons G (bU x) aM.nil)) hq (kp03.grow hR3.cells)
 have md5:=((md2.keep (yY a 8) hR1.cells kp3).same (yY a 8) (aO (o:=.lst [.str "block",.str (strOf x)]) hq)).old (kp1.grow hR1.cells)
 obtain⟨F5,⟨fs,hfs,efs,-⟩,s5⟩:=md5
 refine kk _ _ {e2 with blocks:=e2.blocks++[x]} (show Ev e2 from Aw sm ev) e3 H6 _ (hR5.same sm6) (kp5.trans (bq sm6)) ?_
 refine(Md.Eu mp ⟨F5,hfs,s5⟩ (kp5.grow hR5.cells) sm6 n6 e6).map fun F q=>⟨_,q,?_⟩
 show LsWale.line 0 (ascii "block "++(x++ascii " {"))++(LsWale.statsText 1 x2++LsWale.line 0 [125])=_
 have:=EA 0 (ascii "block") x fs x2 .nil (efs 1)
 rw[show LsWale.statsText 0 .nil=[]from rfl,List.append_nil,List.append_nil]at this
 rw[<-this,show ascii "block "=ascii "block"++[32]from rfl]
 simp only[List.append_assoc,List.cons_append,List.nil_append]
theorem zd:aI ["reader","name","listed"] ["reader"] (aB w6):=⟨rfl,rfl,rfl,by decide +kernel,rfl,by decide +kernel,by decide +kernel⟩
theorem NM(T:Tx P w K mg a):ay P w K mg base (bh P w) 68 a.sA a.pS ["reader"] (iq K a Hw):=by
 refine aE.bx (k:=67) T.B7.fn zd xO (fun cdv A outer s H vs Q E hr h=>?_)
 unfold iq at h
 obtain⟨b,R,p,e,rfl,hR,ev,hT,kk⟩:=h
 have C:=T.bE.cl
 have G:=ck a 10
 refine⟨_,ai (aY (i:=1) zd.nd rfl (Or.inl rfl) ((aZ (pv 0) C T.jk.mt (tS T) (hr.mono (by first|decide|lia)) T.jk.bd .nil au (aa (bB T.xh) ag))))
  (ai (a3 (aZ (pv 0) C T.cQ.mt (ir T) (hr.mono (by first|decide|lia)) T.cQ.bd .nil au (aa aP ag))) (ai (aY (i:=2) zd.nd rfl (Or.inl rfl) (aQ T.sG (xA T 9) hr au (aa (pv 0) ag))) (ai (a3 (aZ (pv 0) C T.cQ.mt (ir T) (hr.mono (by first|decide|lia)) T.cQ.bd .nil au (aa aP ag))) (ai (a3 ((aZ (aD (pv 0) rfl) T.cA.cl T.iU.mt (yD T) (hr.mono (by first|decide|lia)) T.iU.bd .nil aU (aa (pv 1) (aa (bB T.xh) ag)))))
  (aj (aN (eP T.c9.eJ (jw T) (hr.mono (by first|decide|lia)) rfl T.c9.at_ T.iS.2 .nil aU (aa (bH (aa aP (aa (aD (pv 1) rfl) (aa aP (aa (pv 2) ag))))) (aa ij ag))))))))),?_⟩
 refine(rM rfl hR.ins rfl ?_)
 refine sQ (k:=.words) hR hT rfl rfl rfl (yZ e) fun x hx un hl e1 H1 y hR1 kp1 tk1=>?_
 unfold c7 at tk1
 rw[j2 hx]at tk1
 refine(rM rfl hR1.ins rfl ?_)
 refine gD hR1 hT e1 (k:=fun e2 H2 z hR2 kp2 _=>(eX _ rfl ?_))
 refine cf (m:=9) hR2 (by lia) (by lia) hT e2 (fun x s k pl hb=>kF hb) fun x2 p2 e3 hS e4 H3 v3 hR3 kp3 md3=>?_
 have sm:cZ e e3:=Qo 0 _ _ _ hS
 refine(rM rfl hR3.ins rfl ?_)
 refine gD hR3 hT e4 (k:=fun e5 H4 z hR4 kp4 _=>?_)
 have tk4:=bY.keepR tk1 hR1 ((kp2.trans kp3).trans kp4)
 obtain⟨dn,en⟩:=hR4.nm.obj
 refine(rF rfl hR4.ins C T.fP rfl (rN rfl en rfl (eX _ rfl ?_)))
 refine vG hR4 .words tk4 rfl (vz sm un) (by rw[mx sm rfl];exact hl) fun H5 hR5 kp5=>?_
 obtain⟨dt,ft,et,lt1,lt2,lt3,lt4,lt5⟩:=bY.keepR tk4 hR4 kp5
 have kp05:=(((kp1.trans kp2).trans kp3).trans kp4).trans kp5
 refine(rF rfl et T.bz.cl T.bZ lt2 (eX _ rfl ⟨(by show 4<=sizeLine;decide),fun q hq=>fun x6 dx6 n6 nd6 ne6=>⟨x6,dx6,.ref q,.ax,rfl,aw,fun H6 e6 kp6=>⟨rfl,?_⟩⟩⟩))
 rw[J0]at hR5
 have sm6:=aK.made n6 nd6 kp6
 have hR7:=hR5.same (aO (o:=.lst [.str "word",.str (strOf x),.str "=",v3]) hq)
 have kp7:=kp05.trans (bq (aO (o:=.lst [.str "word",.str (strOf x),.str "=",v3]) hq))
 have md5:=((md3.keep (DB a 9) hR2.cells (kp4.trans kp5)).old ((kp1.trans kp2).grow hR2.cells)).xH
 have mp:Md (bG a 10) H (upd H5 q (.lst [.str "word",.str (strOf x),.str "=",v3])) (.ref q) [ascii "word",x,ascii "=",LsWale.itemsText x2]:=by
  rw[IQ,FP]
  exact aM.list G (aM.cons G (bU (H0:=H) (H:=H5) (ascii "word")) (aM.cons G (bU x) (aM.cons G (bU (ascii "=")) (aM.cons G md5 aM.nil)))) hq (kp05.grow hR5.cells)
 refine kk _ _ {e3 with words:=e3.words++[x]} (show Ev e3 from Aw sm ev) e5 H6 _ (hR7.same sm6) (kp7.trans (bq sm6)) (Md.ub mp (kp7.grow hR7.cells) sm6 n6 e6 ?_)
 show LsWale.line 0 (ascii "word "++(x++(ascii " = "++(LsWale.itemsText x2++[59]))))=LsWale.line 0 ((ascii "word"++32::(x++32::(ascii "="++32::LsWale.itemsText x2)))++[59])
 rw[show ascii "word "=ascii "word"++[32]from rfl,show ascii " = "=32::(ascii "="++[32])from rfl]
 simp only[List.append_assoc,List.cons_append,List.nil_append]
end Wale
end
section
set_option Elab.async false
set_option linter.all false
set_option maxRecDepth 100000
set_option maxHeartbeats 2000000
namespace Wale
open PySem PySem.Spec PyProof.Rows L2
open Wm
open LsWale (ascii Fault eatSign eatWord eatOpen anyName newName oldName markName holdName wanted isName PLAINS)
variable {P:Program}{w:World}{K:PySem.W.Frag}{mg:Str->Option Value}{base:Heap}{a:Ad}
def jP(acc:List LsWale.Sum)(s:ah):Except Fault (List LsWale.Sum×ah):=if s.isSign ','=true then(jt s.next>>=fun l=>.ok (acc++l.1,l.2))else .ok (acc,s)
theorem KY{b:Bytes}{p:Nat}{e:aC}{acc:List LsWale.Sum}(h:(ae b p e).isSign ','=true):jP acc (ae b p e)=bg .sum 0 (ae b (az b p) e)>>=fun x=>jP (acc++[x.1]) x.2:=by
 unfold jP
 rw[if_pos h,cK (gI h),Cd,bN]
 refine a8 rfl fun x s hx=>?_
 dsimp only
 by_cases c:s.isSign ','=true
 ·rw[if_pos c,if_pos c,bN]
  refine a8 rfl fun y t hy=>?_
  show Except.ok (acc++x::y,t)=Except.ok (acc++[x]++y,t)
  rw[List.append_assoc];rfl
 ·rw[if_neg c,if_neg c];rfl
theorem My(s:ah):jt s=bg .sum 0 s>>=fun x=>jP [x.1] x.2:=by
 rw[Cd]
 rfl
theorem wN{α:Type}{s:ah}{k pl:Nat}{acc:List LsWale.Sum}{f:List LsWale.Sum×ah->Except Fault (α×ah)}(h:HB s k pl)(hf:∀x,bJ (f (x,s)) k pl):bJ (jP acc s>>=f) k pl:=by
 unfold jP
 rw[if_neg (by rw[f9 h];decide)]
 exact hf _
theorem Hy{e:aC}{n:Nat}(h:1<=n)(ev:Ev e):(n≠1/\n≠e.many)↔(n≠1/\n≠(e.sizes.getD []).length):=by
 unfold LsWale.Env.many
 cases e.sizes with
 |none=>simp;lia
 |some l=>rfl
theorem OF(l:List a0):dh (l.map fun x=>[LsWale.sumText x])=LsWale.commas (l.map LsWale.sumText):=by
 unfold dh
 rw[List.map_map]
 rfl
theorem xD:aI ["reader","name","phrases"] ["reader"] (aB wU):=⟨rfl,rfl,rfl,by decide +kernel,rfl,by decide +kernel,by decide +kernel⟩
theorem PH(T:Tx P w K mg a):ay P w K mg base (bh P w) 38 a.qa a.q0 ["reader"] (iq K a zg):=by
 refine aE.bx (k:=37) T.BW.fn xD xO (fun cdv A outer s H vs Q E hr h=>?_)
 unfold iq at h
 obtain⟨b,R,p,e,rfl,hR,ev,hT,kk⟩:=h
 have C:=T.bE.cl
 have G:=ck a 9
 have GP:=cH a 9
 have G10:=ck a 10
 refine⟨_,ai (aY (i:=1) xD.nd rfl (Or.inl rfl) ((aZ (pv 0) C T.jk.mt (tS T) (hr.mono (by first|decide|lia)) T.jk.bd .nil au (aa (bB T.ui) ag))))
  (ai (a3 (aZ (pv 0) C T.cQ.mt (ir T) (hr.mono (by first|decide|lia)) T.cQ.bd .nil au (aa aP ag))) (ai (aY (i:=2) xD.nd rfl (Or.inl rfl) (bH (aa (bH (aa (aQ T.iH (jD T 9) hr au (aa (pv 0) ag)) ag)) ag)))
  (ai (f7 hG (cX (aZ (pv 0) C T.d5.mt (jI T) (hr.mono (by first|decide|lia)) T.d5.bd .nil au (aa aP ag))) (aj (a3 ((dv PySem.F.plainAttrs_list PySem.F.slot_list_append PySem.F.type_list_append eB (pv 2) (aa (bH (aa (aQ T.iH (jD T 9) hr au (aa (pv 0) ag)) ag)) ag))))))
  (ai (a3 (aZ (pv 0) C T.cQ.mt (ir T) (hr.mono (by first|decide|lia)) T.cQ.bd .nil au (aa aP ag)))
  (ai (a5 (PW.pt (ky (a6 lB (jo wo (by rfl) T.gB PySem.boot_len (aa (pv 2) ag)) bW (a4 _)) (mw (a6 lB (jo wo (by rfl) T.gB PySem.boot_len (aa (pv 2) ag)) ((aZ (aD (pv 0) rfl) T.cA.cl T.eS.mt (vk T) (hr.mono (by first|decide|lia)) T.eS.bd .nil aU (aa (bB T.AY) ag))) (a4 _)))))
   (aj (eY rfl fj T.DJ (K3 T) T.FZ.2 (hr.mono (by first|decide|lia)) (aD (pv 1) rfl))) ba)
  (ai (a3 ((aZ (aD (pv 0) rfl) T.cA.cl T.iU.mt (yD T) (hr.mono (by first|decide|lia)) T.iU.bd .nil aU (aa (pv 1) (aa (bB T.ui) ag)))))
  (aj (aN (eP T.c9.eJ (jw T) (hr.mono (by first|decide|lia)) rfl T.c9.at_ T.iS.2 .nil aU (aa (bH (aa aP (aa (aD (pv 1) rfl) (aa aP (aa (eP T.ip.eJ (xT T) (hr.mono (by first|decide|lia)) rfl T.ip.at_ T.uF.2 .nil aU (aa (pv 2) ag)) ag))))) (aa ij ag))))))))))),?_⟩
 refine(rM rfl hR.ins rfl ?_)
 refine sQ (k:=.eW) hR hT rfl rfl rfl (yZ e) fun x hx un hl e1 H1 y hR1 kp1 tk1=>?_
 unfold c7 at tk1
 rw[j2 hx]at tk1
 refine(rM rfl hR1.ins rfl ?_)
 refine gD hR1 hT e1 (k:=fun e2 H2 z hR2 kp2 _=>(eX _ rfl ?_))
 rw[My,bN]at e2
 have hbf:∀(x1:List LsWale.Sum)(s:ah)(k pl:Nat),HB s k pl->bJ (eatSign ';' s>>=fun u=>(if x1.length≠1/\x1.length≠e.many then .error ⟨7,(ae b p e).place⟩else .ok (.let_ x x1,{u with env:={u.env with lets:=u.env.lets++[x]}}):Except Fault (LsWale.Head×ah))) k pl:=fun x1 s k pl hb=>kF hb
 refine cf (m:=9) hR2 (by lia) (by lia) hT e2 (fun x s k pl hb=>wN hb fun x1=>hbf x1 s k pl hb) fun x2 p2 e3 hS e4 H3 v3 hR3 kp3 md3=>⟨(by show 1<=sizeLine;decide),fun l1 hl1=>⟨(by show 1<=sizeLine;decide),fun l hl2=>?_⟩⟩
 have sm3:cZ e e3:=B0 .sum 0 _ _ _ hS
 have kp02:=kp1.trans kp2
 have kp03:=kp02.trans kp3
 have g3:=kp03.grow hR3.cells
 have m1:Md (bG a 9) H (upd H3 l1 (.lst [v3])) (.ref l1) [LsWale.sumText x2]:=aM.list G (aM.cons G (jv (md3.old (kp02.grow hR2.cells))) aM.nil) hl1 g3
 have ml:=aM.list GP (aM.cons GP m1 aM.nil) hl2 (g3.trans sh)
 let I:List LsWale.Sum×Nat×aC->L2.St->Hp->Prop:=fun i σ H'=>σ=[some (.ref R.r),some (.ref y),some (.ref l)]/\1<=i.1.length/\aq a K b R i.2.1 0 (lst i.2.2) H'/\aH R H1 H'/\cZ e i.2.2/\
  zg (ae b p e)=(jP i.1 (ae b i.2.1 i.2.2)>>=fun x1=>eatSign ';' x1.2>>=fun u=>if x1.1.length≠1/\x1.1.length≠e.many then .error ⟨7,(ae b p e).place⟩else .ok (.let_ x x1.1,{u with env:={u.env with lets:=u.env.lets++[x]}}))/\
  Md (cE (bG a 9)) H H' (.ref l) (i.1.map fun x=>[LsWale.sumText x])/\i.1.length+(toks b i.2.1).length<=(toks b (az b (az b p))).length
 let μ:List LsWale.Sum×Nat×aC->Nat:=fun i=>(toks b i.2.1).length
 have l0:=mH (hZ _ 0 _) hS
 refine gx I μ ([x2],p2,e3) ⟨rfl,Nat.le_refl _,(hR3.same (aO hl1)).same (aO hl2),((kp2.trans kp3).trans (bq (aO hl1))).trans (bq (aO hl2)),sm3,e4,ml,?_⟩ ?_
 ·show 1+(toks b p2).length<=_
  lia
 rintro⟨acc,p4,e5⟩ σ H4 ⟨rfl,hn,hR4,kp4,sm4,h4,ms,ln⟩
 dsimp only at hn hR4 h4 sm4 ms ln
 have sz:=rS hR.len (az b (az b p))
 refine(rM rfl hR4.ins rfl ?_)
 refine AR (c:=',') (e:=e5) hR4 hT (fun k pl hb=>by rw[h4];exact wN hb fun x1=>hbf x1 _ k pl hb) (fun c H5 hR5 kp5=>?_) (fun c nb H5 hR5 kp5=>?_)
 ·rw[KY c,bN]at h4
  have ms5:=ms.keep (bT GP) hR.cells kp5
  obtain⟨hnl,vs5,el5,hlen5⟩:=ms5.cell
  refine(eX _ rfl (bK ?_))
  refine fM (I:=I) (μ:=μ) (i:=(acc,p4,e5)) ?_
  refine(eX _ rfl ⟨.inl ⟨rfl,_,aF.of el5⟩,eX _ rfl ?_⟩)
  refine cf (m:=9) hR5 (by lia) (by lia) hT h4 (fun x s k pl hb=>wN hb fun x1=>hbf x1 s k pl hb) fun x6 p6 e6 hS6 h6 H6 v6 hR6 kp6 md6=>⟨(by show 1<=sizeLine;decide),fun l6 hl6=>?_⟩
  have kp05:=(kp1.trans kp4).trans kp5
  have m6:Md (bG a 9) H5 (upd H6 l6 (.lst [v6])) (.ref l6) [LsWale.sumText x6]:=aM.list G (aM.cons G (jv md6) aM.nil) hl6 (kp6.grow hR6.cells)
  have ms6:=(ms5.keep (bT GP) hR.cells kp6).same (bT GP) (aO (o:=.lst [v6]) hl6)
  obtain⟨_,vs6,el6,hlen6⟩:=ms6.cell
  have hR7:=hR6.same (aO (o:=.lst [v6]) hl6)
  have kp17:=((kp4.trans kp5).trans kp6).trans (bq (aO (o:=.lst [v6]) hl6))
  have lc:dB H (upd H6 l6 (.lst [v6])) (upd (upd H6 l6 (.lst [v6])) l (.lst (vs6++[.ref l6]))) l:=eO hnl el6
  have l1:=mH (hZ _ 0 _) hS6
  have l2:=oP (gI c)
  rw[List.length_map]at hlen6
  have h1l:H1 l=none:=by
   cases q:H1 l with
   |none=>rfl
   |some o=>
    have:=((((kp2.trans kp3).trans (bq (aO (o:=.lst [v3]) hl1))).grow (hR3.same (aO hl1)).cells).none hl2)
    rw[this]at q;cases q
  refine⟨l,vs6,.ref l6,rfl,rfl,el6,by lia,(acc++[x6],p6,e6),?_,rfl,?_,hR7.bO hR lc,kp17.bO ⟨lc.keep,h1l,lc.lst,lc.grow⟩,sm4.trans (B0 .sum 0 _ _ _ hS6),h6,?_,?_⟩
  ·show(toks b p6).length<(toks b p4).length
   lia
  ·show 1<=(acc++[x6]).length
   rw[List.length_append];lia
  ·show Md _ _ _ _ ((acc++[x6]).map fun x=>[LsWale.sumText x])
   rw[List.map_append]
   exact ms6.append GP el6 m6 (eU el5) (kp05.grow hR5.cells)
  ·show(acc++[x6]).length+(toks b p6).length<=_
   rw[List.length_append,List.length_singleton];lia
 have e6:zg (ae b p e)=eatSign ';' (ae b p4 e5)>>=fun u=>if acc.length≠1/\acc.length≠e.many then .error ⟨7,(ae b p e).place⟩else .ok (.let_ x acc,{u with env:={u.env with lets:=u.env.lets++[x]}}):=by
  rw[h4]
  unfold jP
  rw[if_neg (by rw[c];decide)]
  rfl
 refine(eX _ rfl (cw (rM rfl hR5.ins rfl ?_)))
 refine gD hR5 hT e6 (k:=fun e7 H6 z hR6 kp6 _=>?_)
 have tk6:=bY.keepR tk1 hR1 ((kp4.trans kp5).trans kp6)
 have hz:lst e5 .sizes=lst e .sizes:=mx sm4 rfl
 have mi:=Hy (e:=e) hn ev
 have ms6:=ms.keep (bT GP) hR.cells (kp5.trans kp6)
 obtain⟨_,vs6,el6,hlen6⟩:=ms6.cell
 rw[List.length_map]at hlen6
 have kp06:=kp1.trans ((kp4.trans kp5).trans kp6)
 have fin:¬(acc.length≠1/\acc.length≠e.many)->∀(H7 H8 H9:Hp)(q x8 dx8 x9 dx9:Addr),aq a K b R (az b p4) 0 (dy (lst e5) .eW x) H7->aH R H6 H7->aK H7 H8->H7 x8=none->H8 x8=some (.ins a.cD dx8 [("phrases",.ref l)])->H8 q=none->
   aK (upd H8 q (.lst [.str "let",.str (strOf x),.str "=",.ref x8])) H9->upd H8 q (.lst [.str "let",.str (strOf x),.str "=",.ref x8]) x9=none->H9 x9=some (.ins a.dR dx9 [("phrase",.ref q),("body",.ax)])->Q (.ref x9) H9:=fun hc H7 H8 H9 q x8 dx8 x9 dx9 hR7 kp7 sm8 n8 e8 hq sm9 n9 e9=>by
  rw[if_neg hc]at e7
  rw[MV]at hR7
  have kp07:=kp06.trans kp7
  have g7:=kp07.grow hR7.cells
  have mL:=(Md.listed G (ms6.keep (bT GP) hR.cells kp7) g7 sm8 n8 e8).yE
  have hR8:=hR7.same sm8
  have kp08:=kp07.trans (bq sm8)
  have mp:Md (bG a 10) H (upd H8 q (.lst [.str "let",.str (strOf x),.str "=",.ref x8])) (.ref q) [ascii "let",x,ascii "=",dh (acc.map fun x=>[LsWale.sumText x])]:=by
   rw[Lf,FP]
   exact aM.list G10 (aM.cons G10 (bU (H0:=H) (H:=H8) (ascii "let")) (aM.cons G10 (bU x) (aM.cons G10 (bU (ascii "=")) (aM.cons G10 mL aM.nil)))) hq (kp08.grow hR8.cells)
  have hR8':=hR8.same (aO (o:=.lst [.str "let",.str (strOf x),.str "=",.ref x8]) hq)
  have kp8':=kp08.trans (bq (aO (o:=.lst [.str "let",.str (strOf x),.str "=",.ref x8]) hq))
  refine kk _ _ {e5 with lets:=e5.lets++[x]} (show Ev e5 from Aw sm4 ev) e7 H9 _ (hR8'.same sm9) (kp8'.trans (bq sm9)) (Md.ub mp (kp8'.grow hR8'.cells) sm9 n9 e9 ?_)
  rw[OF]
  show LsWale.line 0 (ascii "let "++(x++(ascii " = "++(LsWale.commas (acc.map LsWale.sumText)++[59]))))=LsWale.line 0 ((ascii "let"++32::(x++32::(ascii "="++32::LsWale.commas (acc.map LsWale.sumText))))++[59])
  rw[show ascii "let "=ascii "let"++[32]from rfl,show ascii " = "=32::(ascii "="++[32])from rfl]
  simp only[List.append_assoc,List.cons_append,List.nil_append]
 obtain⟨dn,en⟩:=hR6.nm.obj
 refine(eX _ rfl ⟨l,eX _ rfl ⟨.inl (aF.of el6),rfl,eX _ rfl ?_⟩⟩)
 rw[fS,hlen6]
 by_cases c1:acc.length=1
 ·refine sf (by rw[c1];rfl) ?_
  refine cw ?_
  refine(rF rfl hR6.ins C T.fP rfl (rN rfl en rfl (eX _ rfl ?_)))
  refine vG hR6 .eW tk6 rfl (vz sm4 un) (by rw[mx sm4 rfl];exact hl) fun H7 hR7 kp7=>?_
  obtain⟨dt,ft,et,lt1,lt2,lt3,lt4,lt5⟩:=bY.keepR tk6 hR6 kp7
  refine(rF rfl et T.bz.cl T.bZ lt2 (eX _ rfl (fun x8 dx8 n8 nd8 ne8=>⟨x8,dx8,.ref l,rfl,aw,fun H8 e8 kp8=>⟨rfl,(by show 4<=sizeLine;decide),fun q hq=>fun x9 dx9 n9 nd9 ne9=>⟨x9,dx9,.ref q,.ax,rfl,aw,fun H9 e9 kp9=>⟨rfl,?_⟩⟩⟩⟩)))
  exact fin (fun z=>z.1 c1) H7 H8 H9 q x8 dx8 x9 dx9 hR7 kp7 (aK.made n8 nd8 kp8) n8 e8 hq (aK.made n9 nd9 kp9) n9 e9
 ·rw[decide_eq_false (fun z=>c1 (by have z:((acc.length:Nat):Int)=1:=z;lia))]
  refine bK (eX _ rfl ⟨l,eX _ rfl ⟨.inl (aF.of el6),rF rfl hR6.ins C T.fP rfl (rN rfl en rfl ?_)⟩⟩)
  refine t8 hR6 .sizes ⟨rfl,_,rfl,?_⟩
  rw[fS,hz,hlen6]
  by_cases c2:acc.length=(lst e .sizes).length
  ·refine sf (by rw[c2]) ?_
   refine(rF rfl hR6.ins C T.fP rfl (rN rfl en rfl (eX _ rfl ?_)))
   refine vG hR6 .eW tk6 rfl (vz sm4 un) (by rw[mx sm4 rfl];exact hl) fun H7 hR7 kp7=>?_
   obtain⟨dt,ft,et,lt1,lt2,lt3,lt4,lt5⟩:=bY.keepR tk6 hR6 kp7
   refine(rF rfl et T.bz.cl T.bZ lt2 (eX _ rfl (fun x8 dx8 n8 nd8 ne8=>⟨x8,dx8,.ref l,rfl,aw,fun H8 e8 kp8=>⟨rfl,(by show 4<=sizeLine;decide),fun q hq=>fun x9 dx9 n9 nd9 ne9=>⟨x9,dx9,.ref q,.ax,rfl,aw,fun H9 e9 kp9=>⟨rfl,?_⟩⟩⟩⟩)))
   exact fin (fun z=>(mi.mp z).2 c2) H7 H8 H9 q x8 dx8 x9 dx9 hR7 kp7 (aK.made n8 nd8 kp8) n8 e8 hq (aK.made n9 nd9 kp9) n9 e9
  ·rw[decide_eq_false (fun(z:((acc.length:Nat):Int)=((lst e .sizes).length:Nat))=>c2 (by lia))]
   rw[if_pos (mi.mpr ⟨c1,c2⟩)]at e7
   obtain⟨dt,ft,et,lt1,lt2,lt3,lt4,lt5⟩:=tk6
   refine bK (rF rfl et T.bz.cl T.gL lt4 (eA T.DJ (hT.err ?_)))
   rw[e7,jN]
end Wale
end
section
set_option Elab.async false
set_option linter.all false
set_option maxRecDepth 100000
set_option maxHeartbeats 2000000
namespace Wale
open PySem PySem.Spec PyProof.Rows L2
open Wm
open LsWale (ascii Fault eatSign eatWord eatOpen anyName newName oldName markName holdName wanted isName PLAINS)
variable {P:Program}{w:World}{K:PySem.W.Frag}{mg:Str->Option Value}{base:Heap}{a:Ad}
section
variable {α:Type}{b:Bytes}{R:RA}{p:Nat}{e:aC}{H:Hp}{Q:VK}{E:XK}{g:Except Fault (LsWale.Head×ah)}
theorem BL{S:Nat->ah->Except Fault (LsWale.Head×ah)}{x:Addr}(hR:aq a K b R (az b p) 0 (lst e) H)(tk:c7 a b p H x)(ev:Ev e)(hT:Tl K a E g)(hg:g=S (aS b p) (ae b (az b p) e))
  (kk:∀x p' e',Ev e'->g=.ok (x,ae b p' e')->∀(H':Hp)(v:V),aq a K b R p' 0 (lst e') H'->aH R H H'->Md (iO a) H H' v x->Q v H'):j5 K a S [.ref R.r,.ref x] H Q E:=by
 subst hg
 unfold j5
 exact⟨b,R,p,e,x,rfl,hR,tk,ev,hT,kk⟩
theorem wA{S:ah->Except Fault (LsWale.Head×ah)}(hR:aq a K b R p 0 (lst e) H)(ev:Ev e)(hT:Tl K a E g)(hg:g=S (ae b p e))
  (kk:∀x p' e',Ev e'->g=.ok (x,ae b p' e')->∀(H':Hp)(v:V),aq a K b R p' 0 (lst e') H'->aH R H H'->Md (iO a) H H' v x->Q v H'):iq K a S [.ref R.r] H Q E:=by
 subst hg
 unfold iq
 exact⟨b,R,p,e,rfl,hR,ev,hT,kk⟩
end
@[irreducible] def kr(K:PySem.W.Frag)(a:Ad):Sp:=fun vs H Q E=>∃(b:Bytes)(R:RA)(p:Nat)(e:aC)(g:Except Fault (LsWale.Head×ah)),vs=[.ref R.r]/\aq a K b R p 0 (lst e) H/\Ev e/\ef (ae b p e)=some g/\
 Tl K a E g/\∀x p' e',Ev e'->g=.ok (x,ae b p' e')->∀(H':Hp)(v:V),aq a K b R p' 0 (lst e') H'->aH R H H'->Md (iO a) H H' v x->Q v H'
theorem NJ{α:Type}{b:Bytes}{R:RA}{p:Nat}{e:aC}{H:Hp}{Q:VK}{E:XK}{g:Except Fault (LsWale.Head×ah)}{r:Except Fault (α×ah)}{f:LsWale.Head×ah->Except Fault (α×ah)}(hR:aq a K b R p 0 (lst e) H)(ev:Ev e)(hg:ef (ae b p e)=some g)(hT:Tl K a E r)(hr:r=g>>=f)(hB:∀x s k pl,HB s k pl->bJ (f (x,s)) k pl)
  (kk:∀x p' e',Ev e'->g=.ok (x,ae b p' e')->r=f (x,ae b p' e')->∀(H':Hp)(v:V),aq a K b R p' 0 (lst e') H'->aH R H H'->Md (iO a) H H' v x->Q v H'):kr K a [.ref R.r] H Q E:=by
 unfold kr
 exact⟨b,R,p,e,g,rfl,hR,ev,hg,fun k pl h=>hT k pl (by rw[hr];exact h.bind fun x s hb=>hB x s k pl hb),fun x p' e' ev' hS=>kk x p' e' ev' hS (by rw[hr,hS];rfl)⟩
theorem L5(vs:List V)(H:Hp)(Q:VK)(E:XK)(h:kr K a vs H Q E):vs.length=1:=by
 unfold kr at h
 obtain⟨_,_,_,_,_,rfl,_⟩:=h;rfl
theorem K5{vs:List V}{H:Hp}{Q:VK}{E:XK}(h:kr K a vs H Q E):∃(b:Bytes)(R:RA)(p:Nat)(e:aC)(g:Except Fault (LsWale.Head×ah)),vs=[.ref R.r]/\aq a K b R p 0 (lst e) H/\Ev e/\ef (ae b p e)=some g/\
 Tl K a E g/\∀x p' e',Ev e'->g=.ok (x,ae b p' e')->∀(H':Hp)(v:V),aq a K b R p' 0 (lst e') H'->aH R H H'->Md (iO a) H H' v x->Q v H':=by unfold kr at h;exact h
theorem LB{b:Bytes}{p:Nat}{e:aC}{g:Except Fault (LsWale.Head×ah)}(h:ef (ae b p e)=some g):cO (ao b p)=true:=by
 by_cases c:cO (ao b p)=true
 ·exact c
 ·unfold ef gc at h
  simp only[Aj c]at h
  cases h
theorem FW:aI ["reader","token"] ["reader"] (aB yf):=⟨rfl,rfl,rfl,by decide +kernel,rfl,by decide +kernel,by decide +kernel⟩
theorem OV(T:Tx P w K mg a):ay P w K mg base (bh P w) 97 a.qg a.pK ["reader"] (kr K a):=by
 refine aE.bx (k:=96) T.GR.fn FW L5 (fun cdv A outer s H vs Q E hr h=>?_)
 obtain⟨b,R,p,e,g,rfl,hR,ev,hg,hT,kk⟩:=K5 h
 have C:=T.bE.cl
 refine⟨_,ai (aY (i:=1) FW.nd rfl (Or.inl rfl) (cx (pv 0) C T.cT.mt (jf T) (hr.mono (by first|decide|lia)) T.cT.bd .nil au))
  (ai (a5 (a6 cq (aD (pv 1) rfl) aP (a4 _)) (aj (aN (aQ T.Cb (N6 T) (hr.mono (by first|decide|lia)) au (aa (pv 0) (aa (pv 1) ag))))) ba)
  (ai (a5 (a6 cq (aD (pv 1) rfl) aP (a4 _)) (aj (aN (aQ T.GA (MH T) (hr.mono (by first|decide|lia)) au (aa (pv 0) (aa (pv 1) ag))))) ba)
  (ai (a5 (a6 cq (aD (pv 1) rfl) aP (a4 _)) (aj (aN (aQ T.BW (PH T) (hr.mono (by first|decide|lia)) au (aa (pv 0) ag)))) ba)
  (ai (a5 (a6 cq (aD (pv 1) rfl) aP (a4 _)) (aj (aN (aQ T.B7 (NM T) (hr.mono (by first|decide|lia)) au (aa (pv 0) ag)))) ba)
  (aj (aN (aQ T.CP (J9 T) hr au (aa (pv 0) ag)))))))),?_⟩
 have ht:=LB hg
 have nx:=cK (e:=e) ht
 refine(rM rfl hR.ins rfl ?_)
 refine iK hR (uv ht) fun H1 x hR1 kp1 tk1=>?_
 have tk1':=tk1
 obtain⟨dt,ft,et,lt1,lt2,lt3,lt4,lt5⟩:=tk1
 have cl:=T.bz.cl
 have kk':∀x p' e',Ev e'->g=.ok (x,ae b p' e')->∀(H':Hp)(v:V),aq a K b R p' 0 (lst e') H'->aH R H1 H'->Md (iO a) H1 H' v x->Q v H':=fun x p' e' ev' hS H' v hR' kp' md'=>kk x p' e' ev' hS H' v hR' (kp1.trans kp') (md'.old (kp1.grow hR1.cells))
 unfold ef gc at hg
 rw[nx,jN]at hg
 refine(rF rfl et cl T.bZ lt2 ⟨rfl,eX _ rfl ?_⟩)
 rw[cR,fF (c:="sizes") e]
 refine aV (fun c=>?_) (fun c=>?_)
 ·rw[if_pos c]at hg
  refine(eX _ rfl (eX _ rfl ?_))
  refine BL hR1 tk1' ev hT ?_ kk'
  rw[<-Option.some.inj hg]
  unfold rb gM
  dsimp only
  by_cases c2:e.sizes.isSome=true\/e.lets≠[]
  ·rw[if_pos c2,if_pos c2]
  ·rw[if_neg c2,if_neg c2];simp only[bN];rfl
 rw[if_neg c]at hg
 refine(rF rfl et cl T.bZ lt2 ⟨rfl,eX _ rfl ?_⟩)
 rw[cR,fF (c:="yarns") e]
 refine aV (fun c=>?_) (fun c=>?_)
 ·rw[if_pos c]at hg
  refine(eX _ rfl (eX _ rfl ?_))
  refine BL hR1 tk1' ev hT ?_ kk'
  rw[<-Option.some.inj hg]
  unfold pV gM
  dsimp only
  by_cases c2:e.yarns.isSome=true
  ·rw[if_pos c2,if_pos c2]
  ·rw[if_neg c2,if_neg c2];simp only[bN];rfl
 rw[if_neg c]at hg
 refine(rF rfl et cl T.bZ lt2 ⟨rfl,eX _ rfl ?_⟩)
 rw[cR,fF (c:="let") e]
 refine aV (fun c=>?_) (fun c=>?_)
 ·rw[if_pos c]at hg
  refine(eX _ rfl ?_)
  refine wA hR1 ev hT ?_ kk'
  rw[<-Option.some.inj hg]
  rfl
 rw[if_neg c]at hg
 refine(rF rfl et cl T.bZ lt2 ⟨rfl,eX _ rfl ?_⟩)
 rw[cR,fF (c:="word") e]
 refine aV (fun c=>?_) (fun c=>?_)
 ·rw[if_pos c]at hg
  refine(eX _ rfl ?_)
  refine wA hR1 ev hT ?_ kk'
  rw[<-Option.some.inj hg]
  rfl
 rw[if_neg c]at hg
 by_cases c2:(ae b p e).isWord "block"=true
 ·rw[if_pos c2]at hg
  refine(eX _ rfl ?_)
  refine wA hR1 ev hT ?_ kk'
  rw[<-Option.some.inj hg]
  unfold Dv iw
  simp only[bN]
  rfl
 ·rw[if_neg c2]at hg
  cases hg
theorem PD{b:Bytes}{p:Nat}(e:aC):dY (.str (bo (ao b p))) ((["sizes","yarns","let","word","block"]:List Str).map V.str)=(ef (ae b p e)).isSome:=by
 rw[in_words (e:=e) ["sizes","yarns","let","word","block"] (by decide +kernel) (by decide +kernel)]
 unfold ef gc
 simp only[List.any_cons,List.any_nil,Bool.or_false]
 by_cases h1:(ae b p e).isWord "sizes"=true
 ·simp[h1]
 by_cases h2:(ae b p e).isWord "yarns"=true
 ·simp[h1,h2]
 by_cases h3:(ae b p e).isWord "let"=true
 ·simp[h1,h2,h3]
 by_cases h4:(ae b p e).isWord "word"=true
 ·simp[h1,h2,h3,h4]
 by_cases h5:(ae b p e).isWord "block"=true
 ·simp[h1,h2,h3,h4,h5]
 ·simp[h1,h2,h3,h4,h5]
def gO(n:Bytes)(hs:List LsWale.Head)(x:LsWale.Stats×ah):Except Fault (LsWale.Pattern×ah):=match x.2.ts with
 |⟨_,.done⟩::_=>.ok (⟨n,hs,x.1⟩,x.2)
 |_=>wanted x.2
def j6(s:ah):Except Fault (LsWale.Pattern×ah):=eatWord "pattern" s>>=fun s=>anyName s>>=fun n=>eatSign ';' n.2>>=fun t=>jz t>>=fun h=>cS 0 h.2>>=fun x=>gO n.1 h.1 x
theorem DF(s:ah):tm s=(j6 s).map fun x=>(x.1,x.2.env):=by
 unfold tm j6
 cases eatWord "pattern" s with
 |error f=>rfl
 |ok s1=>
  simp only[eI]
  cases anyName s1 with
  |error f=>rfl
  |ok n=>
   simp only[eI]
   cases eatSign ';' n.2 with
   |error f=>rfl
   |ok t=>
    simp only[eI]
    cases jz t with
    |error f=>rfl
    |ok h=>
     simp only[eI]
     cases cS 0 h.2 with
     |error f=>rfl
     |ok x=>
      simp only[eI]
      obtain⟨xs,⟨ts,env⟩⟩:=x
      cases ts with
      |nil=>rfl
      |cons t r=>
       obtain⟨q,tk⟩:=t
       cases tk<;>rfl
theorem Dq(n:Bytes)(hs:List LsWale.Head)(x:LsWale.Stats)(b:Bytes)(p:Nat)(e:aC):gO n hs (x,ae b p e)=match ao b p with
  | .done=>.ok (⟨n,hs,x⟩,ae b p e)
  |_=>wanted (ae b p e):=by
 unfold gO
 dsimp only
 rw[vP]
 cases ao b p<;>rfl
theorem xt{n:Bytes}{hs:List LsWale.Head}{x:LsWale.Stats}{s:ah}{k pl:Nat}(h:HB s k pl):gO n hs (x,s)=.error ⟨k,pl⟩:=by
 unfold gO
 have q:=ly (α:=LsWale.Pattern×ah) h
 obtain⟨r,h⟩:=h
 dsimp only
 rw[h]
 exact q
def kc(n:Bytes)(hs:List LsWale.Head)(s:ah):Except Fault (LsWale.Pattern×ah):=jz s>>=fun h=>cS 0 h.2>>=fun x=>gO n (hs++h.1) x
theorem DD{n:Bytes}{hs:List LsWale.Head}{s:ah}{k pl:Nat}(h:HB s k pl):bJ (kc n hs s) k pl:=by
 unfold kc
 rw[Nl h]
 show bJ (cS 0 s>>=_) k pl
 rw[BF h]
 exact .inl (xt h)
theorem P9{n:Bytes}{hs:List LsWale.Head}{s:ah}{g:Except Fault (LsWale.Head×ah)}(h:ef s=some g):kc n hs s=g>>=fun x=>kc n (hs++[x.1]) x.2:=by
 unfold kc
 rw[we,h]
 dsimp only
 simp only[bN]
 refine a8 rfl fun x t hx=>?_
 refine a8 rfl fun y u hy=>?_
 show(cS 0 u>>=fun x_1=>gO n (hs++x::y) x_1)=(cS 0 u>>=fun x_1=>gO n (hs++[x]++y) x_1)
 rw[List.append_assoc];rfl
theorem Ml{n:Bytes}{hs:List LsWale.Head}{s:ah}(h:ef s=none):kc n hs s=cS 0 s>>=fun x=>gO n hs x:=by
 unfold kc
 rw[we,h]
 show(cS 0 s>>=fun x=>gO n (hs++[]) x)=_
 rw[List.append_nil]
def yL(a:Ad):Rep LsWale.Pattern:=fun H F v pt=>∃fs,cE (dU a 9) H F v fs/\b5 (fs.flatMap fun f=>f 0)=LsWale.print pt
theorem Of:("pattern":Str)=strOf (ascii "pattern"):=by decide +kernel
theorem N9{α:Type}{b:Bytes}{R:RA}{p d:Nat}{L:NL}{e:aC}{H:Hp}{Q:VK}{E:XK}{r:Except Fault (α×ah)}{f:Bytes×ah->Except Fault (α×ah)}(hR:aq a K b R p d L H)(hT:Tl K a E r)(hr:r=anyName (ae b p e)>>=f)
  (k:∀x,nameAt b p=some x->r=f (x,ae b (az b p) e)->∀(H':Hp)(y:Addr),aq a K b R (az b p) d L H'->aH R H H'->c7 a b p H' y->Q (.ref y) H'):gy K a fo [.ref R.r,.str "name"] H Q E:=by
 unfold gy
 refine⟨b,R,p,d,L,eX _ rfl ⟨hR,hT.bt (e:=e) fun k pl h=>?_,fun nb ht=>?_,fun nb ht=>?_⟩⟩
 ·rw[hr,qo h];exact .inl rfl
 ·obtain⟨x,hx⟩:=gu.mp ht
  exact k x hx (by rw[hr,any_some hx];rfl)
 ·refine hT.want (f:=f) (e:=e) nb ?_
  rw[hr,any_none]
  cases hx:nameAt b p with
  |none=>rfl
  |some x=>exact absurd (gu.mpr ⟨x,hx⟩) ht
def PB(K:PySem.W.Frag)(a:Ad):Sp:=fun vs H Q E=>∃(b:Bytes)(R:RA),vs=[.ref R.r]/\aq a K b R 0 0 (lst .none_) H/\Tl K a E (j6 (ae b 0 .none_))/\(∀x s',j6 (ae b 0 .none_)=.ok (x,s')->∀(H':Hp)(v:V),aH R H H'->Md (yL a) H H' v x->Q v H')
theorem zi:aI ["reader","name","stats"] ["reader"] (aB yn):=⟨rfl,rfl,rfl,by decide +kernel,rfl,by decide +kernel,by decide +kernel⟩
theorem kd_end{b:Bytes}{p:Nat}:fo (ao b p)=("end":Str)↔ao b p=.done:=by
 cases ao b p with
 |word x=>
  refine⟨fun z=>?_,fun z=>by cases z⟩
  have z:dP x="end":=z
  unfold dP at z
  split at z<;>exact absurd z (by decide +kernel)
 |num n=>exact⟨fun z=>absurd z (by show ¬(("number":Str)="end");decide +kernel),fun z=>by cases z⟩
 |sign c=>exact⟨fun z=>absurd z (by show ¬(("fixed":Str)="end");decide +kernel),fun z=>by cases z⟩
 |bad k=>exact⟨fun z=>absurd z (by show ¬(("":Str)="end");decide +kernel),fun z=>by cases z⟩
 |done=>exact⟨fun _=>rfl,fun _=>rfl⟩
theorem Ik(T:Tx P w K mg a):ay P w K mg base (bh P w) 98 a.qW a.so ["reader"] (PB K a):=by
 refine aE.bx (k:=97) T.Gk.fn zi (fun vs H Q E h=>?_) (fun cdv A outer s H vs Q E hr h=>?_)
 ·obtain⟨_,_,rfl,_⟩:=h;rfl
 obtain⟨b,R,rfl,hR,hT,kk⟩:=h
 have C:=T.bE.cl
 have G:=ck a 10
 have GS:=gE a 9
 refine⟨_,ai (a3 (aZ (pv 0) C T.cQ.mt (ir T) (hr.mono (by first|decide|lia)) T.cQ.bd .nil au (aa aP ag))) (ai (aY (i:=1) zi.nd rfl (Or.inl rfl) ((aZ (pv 0) C T.fJ.mt (AU T) (hr.mono (by first|decide|lia)) T.fJ.bd .nil au (aa (bB T.jA) ag)))) (ai (a3 (aZ (pv 0) C T.cQ.mt (ir T) (hr.mono (by first|decide|lia)) T.cQ.bd .nil au (aa aP ag)))
  (ai (aY (i:=2) zi.nd rfl (Or.inl rfl) (bH (aa (eP T.c9.eJ (jw T) (hr.mono (by first|decide|lia)) rfl T.c9.at_ T.iS.2 .nil aU (aa (bH (aa aP (aa (aD (pv 1) rfl) ag))) (aa ij ag))) ag)))
  (ai (f7 hG (kZ T.Hu (aD (cx (pv 0) C T.bX.mt (hU T) (hr.mono (by first|decide|lia)) T.bX.bd .nil au) rfl)) (aj (a3 ((dv PySem.F.plainAttrs_list PySem.F.slot_list_append PySem.F.type_list_append eB (pv 2) (aa (aQ T.GR (OV T) hr au (aa (pv 0) ag)) ag))))))
  (ai (a3 ((dv PySem.F.plainAttrs_list PySem.F.slot_list_extend PySem.F.type_list_extend qp (pv 2) (aa (aQ T.AW (zA T 9) hr au (aa (pv 0) ag)) ag)))) (ai (a3 ((aZ (pv 0) C T.fJ.mt (AU T) (hr.mono (by first|decide|lia)) T.fJ.bd .nil au (aa (bB T.BQ) ag)))) (aj (aN (pv 2))))))))),?_⟩
 refine(rM rfl hR.ins rfl ?_)
 refine Ej hR hT rfl (k:=fun e1 H1 x1 hR1 kp1 _=>?_)
 refine(rM rfl hR1.ins rfl ?_)
 refine N9 hR1 hT e1 fun n hnm e2 H2 y hR2 kp2 tk2=>?_
 unfold c7 at tk2
 rw[j2 hnm]at tk2
 refine(rM rfl hR2.ins rfl ?_)
 refine gD hR2 hT e2 (k:=fun e3 H3 x3 hR3 kp3 _=>?_)
 obtain⟨dt,ft,et,lt1,lt2,lt3,lt4,lt5⟩:=bY.keepR tk2 hR2 kp3
 have kp03:=(kp1.trans kp2).trans kp3
 refine(rF rfl et T.bz.cl T.bZ lt2 ⟨(by show 2<=sizeLine;decide),fun q hq=>fun x6 dx6 n6 nd6 ne6=>⟨x6,dx6,.ref q,.ax,rfl,aw,fun H6 e6 kp6=>⟨rfl,(by show 1<=sizeLine;decide),fun l hl=>?_⟩⟩⟩)
 have sm6:=aK.made n6 nd6 kp6
 have hR5:=hR3.same (aO (o:=.lst [.str "pattern",.str (strOf n)]) hq)
 have kp5:=kp03.trans (bq (aO (o:=.lst [.str "pattern",.str (strOf n)]) hq))
 have mp:Md (bG a 10) H (upd H3 q (.lst [.str "pattern",.str (strOf n)])) (.ref q) [ascii "pattern",n]:=by
  rw[Of]
  exact aM.list G (aM.cons G (bU (H0:=H) (H:=H3) (ascii "pattern")) (aM.cons G (bU n) aM.nil)) hq (kp03.grow hR3.cells)
 have m0:=Md.zz (n:=9) mp (kp5.grow hR5.cells) sm6 n6 e6
 have hR6:=hR5.same sm6
 have kp6':=kp5.trans (bq sm6)
 have ml:=aM.list GS (aM.cons GS m0 aM.nil) hl (kp6'.grow hR6.cells)
 let I:List LsWale.Head×Nat×aC->L2.St->Hp->Prop:=fun i σ H'=>σ=[some (.ref R.r),some (.ref y),some (.ref l)]/\aq a K b R i.2.1 0 (lst i.2.2) H'/\aH R H H'/\Ev i.2.2/\j6 (ae b 0 .none_)=kc n i.1 (ae b i.2.1 i.2.2)/\
  ∃fs,Md (cE (dU a 9)) H H' (.ref l) fs/\b5 (fs.flatMap fun f=>f 0)=LsWale.line 0 (ascii "pattern "++(n++[59]))++i.1.flatMap LsWale.headText/\fs.length+(toks b i.2.1).length<=20002
 let μ:List LsWale.Head×Nat×aC->Nat:=fun i=>(toks b i.2.1).length
 have tl:=toks_le b
 have bl:=hR.len
 have sz:sizeLine=16777216:=by decide
 refine gx I μ ([],_,_) ⟨rfl,hR6.same (aO hl),kp6'.trans (bq (aO hl)),⟨(fun z=>by cases z),(fun z=>by cases z)⟩,e3,_,ml,?_,?_⟩ ?_
 ·show(LsWale.indent 0++((ascii "pattern"++32::n)++[59]))++[10]++[]=LsWale.line 0 (ascii "pattern "++(n++[59]))++[]
  unfold LsWale.line
  rw[show ascii "pattern "=ascii "pattern"++[32]from rfl]
  simp only[List.append_assoc,List.cons_append,List.nil_append,List.append_nil]
 ·have:=tl (az b (az b (az b 0)))
  show 1+(toks b (az b (az b (az b 0)))).length<=20002
  lia
 rintro⟨hs,p4,e4⟩ σ H4 ⟨rfl,hR4,kp4,ev4,h4,fs,ms,tx,ln⟩
 dsimp only at hR4 h4 ev4 tx ln
 refine As (e:=e4) T rfl hR4 hT (fun k pl hb=>by rw[h4];exact DD hb) fun nb H5 hR5 kp5=>?_
 have ms5:=ms.keep (bT GS) hR.cells kp5
 obtain⟨hnl,vs5,el5,hlen5⟩:=ms5.cell
 have kp05:=kp4.trans kp5
 rw[PD e4]
 cases hh:ef (ae b p4 e4)with
 |some g=>
  rw[P9 hh]at h4
  refine bK ?_
  refine fM (I:=I) (μ:=μ) (i:=(hs,p4,e4)) ?_
  refine(eX _ rfl ⟨.inl ⟨rfl,_,aF.of el5⟩,eX _ rfl ?_⟩)
  refine NJ hR5 ev4 hh hT h4 (fun x s k pl hb=>DD hb) fun x' p6 e6 ev6 hS6 h6 H6 v6 hR6 kp6 md6=>?_
  have ms6:=ms5.keep (bT GS) hR.cells kp6
  obtain⟨_,vs6,el6,hlen6⟩:=ms6.cell
  obtain⟨F6,⟨f6,hf6,ef6⟩,sn6⟩:=md6
  have lc:dB H H6 (upd H6 l (.lst (vs6++[v6]))) l:=eO hnl el6
  have l1:=mH (Gi hh) hS6
  refine⟨l,vs6,v6,rfl,rfl,el6,by lia,(hs++[x'],p6,e6),l1,rfl,hR6.bO hR lc,(kp05.trans kp6).bO lc,ev6,h6,fs++[f6],ms6.append GS el6 ⟨F6,hf6,sn6⟩ (eU el5) (kp05.grow hR5.cells),?_,?_⟩
  ·show b5 ((fs++[f6]).flatMap fun f=>f 0)=_++(hs++[x']).flatMap LsWale.headText
   rw[List.flatMap_append,iY,tx,List.flatMap_append,List.append_assoc]
   show _++(_++b5 (f6 0++[]))=_++(_++(LsWale.headText x'++[]))
   rw[List.append_nil,List.append_nil,ef6]
  ·show(fs++[f6]).length+(toks b p6).length<=_
   rw[List.length_append,List.length_singleton];lia
 |none=>
  rw[Ml hh]at h4
  refine cw (eX _ rfl ⟨.inl ⟨rfl,_,aF.of el5⟩,eX _ rfl ?_⟩)
  refine cf (m:=9) hR5 (by lia) (by lia) hT h4 (fun x s k pl hb=>.inl (xt hb)) fun x7 p7 e7 hS7 h7 H7 v7 hR7 kp7 md7=>?_
  have ms7:=ms5.keep (bT GS) hR.cells kp7
  obtain⟨_,vs7,el7,hlen7⟩:=ms7.cell
  obtain⟨F7,⟨gs,hgs,egs,lgs⟩,sn7⟩:=md7
  have mgs:Md (cE (dU a 9)) H5 H7 v7 gs:=⟨F7,hgs,sn7⟩
  obtain⟨l7,rfl⟩:=mgs.ref
  obtain⟨_,ws7,em7,hlem7⟩:=mgs.cell
  have lc7:dB H H7 (upd H7 l (.lst (vs7++ws7))) l:=eO hnl el7
  have ms8:=ms7.extend GS el7 mgs em7 (eU el5) (kp05.grow hR5.cells)
  have hR8:=hR7.bO hR lc7
  have kp08:=(kp05.trans kp7).bO lc7
  refine⟨l,l7,vs7,ws7,rfl,rfl,el7,em7,by lia,rM rfl hR8.ins rfl ?_⟩
  refine DZ hR8 (hT.bt (e:=e7) fun k pl hb=>.inl (by rw[h7];exact xt hb)) (fun nb hk H9 y9 hR9 kp9 _=>?_) (fun nb hk=>?_)
  ·have hd:=kd_end.mp hk
   refine(eX _ rfl (kk ⟨n,hs,x7⟩ (ae b p7 e7) ?_ H9 _ (kp08.trans kp9) ?_))
   ·rw[h7,Dq,hd]
   ·refine(ms8.keep (bT GS) hR.cells kp9).map fun F q=>⟨_,q,?_⟩
    rw[List.flatMap_append,iY,tx,egs 0]
    show _=LsWale.line 0 (ascii "pattern "++(n++[59]))++(hs.flatMap LsWale.headText++LsWale.statsText 0 x7)
    rw[List.append_assoc]
  ·refine hT.err ?_
   rw[h7,Dq]
   have hnd:ao b p7≠ .done:=fun z=>hk (kd_end.mpr z)
   cases q:ao b p7 with
   |done=>exact absurd q hnd
   |bad k=>exact absurd q (nb k)
   |_=>exact fC nb
end Wale
end
section
set_option Elab.async false
set_option linter.all false
set_option maxRecDepth 100000
set_option maxHeartbeats 2000000
namespace Wale
open PySem PySem.Spec PyProof.Rows L2
open Wm
open LsWale (ascii sumText)
variable {P:Program}{w:World}{K:PySem.W.Frag}{mg:Str->Option Value}{base:Heap}{a:Ad}
def dI(s:Bytes):List Bytes->Bytes
 |[]=>[]
 |[x]=>x
 |x::y::r=>x++(s++dI s (y::r))
theorem tM(s:Bytes)(ys:List Bytes):Txt.join (strOf s) (ys.map strOf)=strOf (dI s ys):=by
 have h:=TL.wO (strOf s) (ys.map strOf)
 rw[TL.join_eq]
 have e:TL.j9 (TL.tl (strOf s)) ((ys.map strOf).map TL.tl)=(dI s ys).map UInt8.toNat:=by
  clear h
  induction ys with
  |nil=>rfl
  |cons x r ih=>
   cases r with
   |nil=>rfl
   |cons y r=>
    rw[List.map_cons,List.map_cons,List.map_cons,List.map_cons,TL.j9,<-List.map_cons (f:=TL.tl),<-List.map_cons (f:=strOf),ih]
    show x.map UInt8.toNat++(s.map UInt8.toNat++_)=_
    rw[dI,List.map_append,List.map_append]
 rw[e]at h
 generalize Str.join (strOf s) (ys.map strOf)=z at h
 obtain⟨⟨l⟩⟩:=z
 have h3:l=(dI s ys).map UInt8.toNat:=h
 rw[h3];rfl
theorem join_nil(ys:List Bytes):dI [] ys=ys.flatten:=by
 induction ys with
 |nil=>rfl
 |cons x r ih=>
  cases r with
  |nil=>simp[dI]
  |cons y r=>rw[dI,ih];rfl
theorem Qp(ys:List Bytes):dI [32] ys=bw ys:=by
 induction ys with
 |nil=>rfl
 |cons x r ih=>
  cases r with
  |nil=>rfl
  |cons y r=>rw[dI,ih];rfl
theorem Pn(ys:List Bytes):dI (ascii ", ") ys=LsWale.commas ys:=by
 induction ys with
 |nil=>rfl
 |cons x r ih=>
  cases r with
  |nil=>rfl
  |cons y r=>rw[dI,ih];rfl
theorem u7(ys:List Bytes):((ys.map strOf).map (·.length)).sum=(ys.map List.length).sum:=by
 induction ys with
 |nil=>rfl
 |cons x r ih=>rw[List.map_cons,List.map_cons,List.sum_cons,ih,List.map_cons,List.sum_cons,str_len]
theorem Be(ys:List Bytes):(ys.map List.length).sum=ys.flatten.length:=by rw[List.length_flatten]
theorem D2(s:Bytes)(ys:List Bytes):(ys.map List.length).sum+ys.length*s.length<=(dI s ys).length+s.length:=by
 induction ys with
 |nil=>simp
 |cons x r ih=>
  cases r with
  |nil=>simp[dI]
  |cons y r=>
   rw[dI,List.length_append,List.length_append,List.map_cons,List.sum_cons,List.length_cons,Nat.succ_mul]
   lia
def c8(l:Nat)(x:a0):Bytes:=if cW x≠0/\cW x<=l then 40::(sumText x++[41])else sumText x
theorem qX(x:a0):x.adds=true↔cW x=1:=by
 cases x with
 |op c p y z=>
  show(c==43||c==45)=true↔(if c=43\/c=45 then 1 else 2)=1
  rw[Bool.or_eq_true,beq_iff_eq,beq_iff_eq]
  by_cases h:c=43\/c=45
  ·rw[if_pos h];exact⟨fun _=>rfl,fun _=>h⟩
  ·rw[if_neg h];exact⟨fun z=>absurd z h,fun z=>by cases z⟩
 |num n=>exact⟨(fun z=>by cases z),(fun z=>by cases z)⟩
 |name p n=>exact⟨(fun z=>by cases z),(fun z=>by cases z)⟩
theorem Gp(x:a0):x.isOp=true↔cW x≠0:=by
 cases x with
 |op c p y z=>
  have h:=yT c
  exact⟨fun _=>(by show dJ c≠0;lia),fun _=>rfl⟩
 |num n=>exact⟨(fun z=>by cases z),(fun z=>absurd rfl z)⟩
 |name p n=>exact⟨(fun z=>by cases z),(fun z=>absurd rfl z)⟩
theorem FC(x:a0):cW x<=2:=by
 cases x with
 |op c p y z=>have h:=yT c;show dJ c<=2;lia
 |num n=>exact Nat.zero_le _
 |name p n=>exact Nat.zero_le _
theorem P2{c:UInt8}(z:a0):LsWale.bracketed (if c=43\/c=45 then z.adds else z.isOp) (sumText z)=c8 (dJ c) z:=by
 unfold c8 LsWale.bracketed dJ
 have l2:=FC z
 by_cases h:c=43\/c=45
 ·rw[if_pos h,if_pos h]
  by_cases q:cW z=1
  ·rw[if_pos ((qX z).mpr q),if_pos ⟨by lia,by lia⟩]
  ·rw[if_neg (fun y=>q ((qX z).mp y)),if_neg (fun y=>q (by lia))]
 ·rw[if_neg h,if_neg h]
  by_cases q:cW z=0
  ·rw[if_neg (fun y=>(Gp z).mp y q),if_neg (fun y=>y.1 q)]
  ·rw[if_pos ((Gp z).mpr q),if_pos ⟨q,l2⟩]
theorem JW(c:UInt8)(p:Nat)(y z:a0):sumText (.op c p y z)=(if c=43\/c=45 then sumText y else LsWale.bracketed y.adds (sumText y))++c::c8 (dJ c) z:=by
 rw[<-P2]
 show(if c=43\/c=45 then _ else _)=_
 by_cases h:c=43\/c=45
 ·rw[if_pos h,if_pos h,if_pos h]
 ·rw[if_neg h,if_neg h,if_neg h]
theorem O2{f x:a0}{prs:List (UInt8×a0)}(h:g0 f prs x)(e:prs=[]):x=f:=by
 cases h with
 |nil=>rfl
 |snoc _=>exact absurd e (by simp)
theorem OU{f x:a0}{prs:List (UInt8×a0)}{l:Nat}(h:g0 f prs x)(hl:∀pr∈prs,dJ pr.1=l)(hf:cW f≠l)(gz:l=1\/l=2)(hne:prs≠[]):sumText x=c8 l f++(prs.map fun pr=>pr.1::c8 l pr.2).flatten:=by
 induction h with
 |nil=>exact absurd rfl hne
 | @snoc prs y z c p h ih=>
  have hc:dJ c=l:=hl (c,z) (List.mem_append_right _ (List.mem_cons_self ..))
  have hl':∀pr∈prs,dJ pr.1=l:=fun pr q=>hl pr (List.mem_append_left _ q)
  rw[JW,hc,List.map_append,List.flatten_append]
  show _++c::c8 l z=c8 l f++(_++((c::c8 l z)++[]))
  rw[List.append_nil,<-List.append_assoc]
  congr 1
  have hcl:(c=43\/c=45)↔l=1:=by
   rw[<-hc];unfold dJ
   by_cases q:c=43\/c=45
   ·rw[if_pos q];exact⟨fun _=>rfl,fun _=>q⟩
   ·rw[if_neg q];exact⟨fun y=>absurd y q,fun y=>by cases y⟩
  by_cases hp:prs=[]
  ·subst hp
   have ey:=O2 h rfl
   subst ey
   show _=c8 l y++[]
   rw[List.append_nil]
   unfold c8 LsWale.bracketed
   have l2:=FC y
   by_cases q:c=43\/c=45
   ·have:=hcl.mp q
    rw[if_pos q,if_neg (fun u=>by lia)]
   ·have:=fun u=>q (hcl.mpr u)
    rw[if_neg q]
    by_cases r:cW y=1
    ·rw[if_pos ((qX y).mpr r),if_pos ⟨by lia,by lia⟩]
    ·rw[if_neg (fun u=>r ((qX y).mp u)),if_neg (fun u=>by lia)]
  ·rw[<-ih hl' hp]
   by_cases q:c=43\/c=45
   ·rw[if_pos q]
   ·rw[if_neg q]
    unfold LsWale.bracketed
    have hy:=h.lv hl' hp
    have e2:l=2:=gz.resolve_left fun u=>q (hcl.mpr u)
    rw[if_neg (fun u=>by rw[qX,hy,e2]at u;cases u)]
def mv(a:Ad)(n:Nat):Sp:=fun vs H Q _=>∃(v:V)(x:a0)(H0:Hp),vs=[v]/\Md (b7 a n) H0 H v x/\(sumText x).length<=4000000/\∀H',aK H H'->Q (.str (strOf (sumText x))) H'
def Ar(a:Ad):Nat->Sp
 |0=>fun _ _ _ _=>False
 |n+1=>fun vs H Q _=>∃(c dx pl:Addr)(fv v:V)(l:Nat)(x:a0)(H0:Hp),vs=[.ref c,v]/\H c=some (.ins a.cn dx (xq l fv pl))/\Md (b7 a n) H0 H v x/\(c8 l x).length<=4000000/\∀H',aK H H'->Q (.str (strOf (c8 l x))) H'
theorem Km{k:Nat}{f:Addr}{fd:FuncData}{ps:List Str}:ay P w K mg base aW k f fd ps (Ar a 0):=⟨fun _ _ _ _ h=>h.elim,fun _ _ _ _ _ _ _ _ _ _ _ _ _ h=>h.elim⟩
theorem HK:aI ["chain","operand"] ["chain","operand"] (aB xV):=⟨rfl,rfl,rfl,by decide +kernel,rfl,by decide +kernel,by decide +kernel⟩
theorem mR:("(":Str)=strOf [40]:=by decide +kernel
theorem vF:(")":Str)=strOf [41]:=by decide +kernel
theorem Kx(T:Tx P w K mg a){k n:Nat}(F:ay P w K mg base aW k a.lM a.lz ["node"] (mv a n)):ay P w K mg base aW (k+1) a.mm a.ma ["chain","operand"] (Ar a (n+1)):=by
 refine aE.ok (k:=k) T.zh.fn HK (fun vs H Q E h=>?_) (fun cdv A outer s H vs Q E hr h=>?_)
 ·obtain⟨_,_,_,_,_,_,_,_,rfl,_⟩:=h;rfl
 obtain⟨c,dx,pl,fv,v,l,x,H0,rfl,ec,md,hz,q⟩:=h
 have sz:sizeLine=16777216:=by decide
 refine⟨_,ai (a5 (PW.pt (ky (cX (qb T.pD T.d8 (pv 1))) (mw (a6 o1 (aD (pv 1) rfl) (aD (pv 0) rfl) (a4 _)))))
   (aj (aN (cY gN (cY gN aP (aQ T.vw F hr aU (aa (pv 1) ag))) aP))) ba)
  (aj (aN (aQ T.vw F hr aU (aa (pv 1) ag)))),?_⟩
 have plain:¬(cW x≠0/\cW x<=l)->mv a n [v] H Q E:=fun hc=>by
  unfold c8 at hz q
  rw[if_neg hc]at hz q
  exact⟨v,x,H0,rfl,md,hz,q⟩
 obtain⟨F0,hs,sn⟩:=md
 rcases pZ hs with ⟨h0,rfl⟩|⟨m,rfl,c2,dx2,pl2,fv2,f,F',vs,prs,l2,rfl,h⟩
 ·refine(gS rfl (.str _) T.zy ?_)
  exact cw (cw (eX _ rfl (plain fun z=>z.1 h0)))
 ·have hlv:cW x=l2:=h.blt.lv h.ju h.ne
  refine(gS rfl (kN T h.obj T.d8 T.uh) T.x4 ?_)
  refine bK (rF rfl h.obj T.d8.cl T.uH rfl (rF rfl ec T.d8.cl T.uH rfl ⟨_,eX _ rfl ⟨rfl,eX _ rfl ?_⟩⟩))
  have gz:=h.gz
  by_cases hc:l2<=l
  ·rw[decide_eq_true (show(l2:Int)<=(l:Int) by lia)]
   have hcond:cW x≠0/\cW x<=l:=⟨by lia,by lia⟩
   unfold c8 at hz q
   rw[if_pos hcond]at hz q
   simp only[List.length_cons,List.length_append,List.length_nil]at hz
   refine bK (eX _ rfl ⟨.ref c2,x,H0,rfl,⟨F0,hs,sn⟩,by lia,fun H1 s1=>⟨_,eX _ rfl ⟨rfl,?_,?_⟩⟩⟩)
   ·rw[mR,str_len,str_len];simp only[List.length_cons,List.length_nil];lia
   ·refine⟨_,eX _ rfl ⟨rfl,?_,?_⟩⟩
    ·rw[mR,vF,dH,str_len,str_len];simp only[List.length_cons,List.length_nil,List.length_append];lia
    ·rw[mR,vF,dH,dH]
     exact q H1 s1
  ·rw[decide_eq_false (show ¬(l2:Int)<=(l:Int) by lia)]
   exact cw (eX _ rfl (plain fun z=>hc (by lia)))
end Wale
end
section
set_option Elab.async false
set_option linter.all false
set_option maxRecDepth 100000
set_option maxHeartbeats 2000000
namespace Wale
open PySem PySem.Spec PyProof.Rows L2
open Wm
open LsWale (ascii sumText)
variable {P:Program}{w:World}{K:PySem.W.Frag}{mg:Str->Option Value}{base:Heap}{a:Ad}
theorem dG.get{α β:Type}{r:α->β->Prop}{xs:List α}{ys:List β}(q:dG r xs ys){i:Nat}{x:α}(h:xs[i]? =some x):∃y,ys[i]? =some y/\r x y:=by
 induction q generalizing i with
 |nil=>simp at h
 |cons z _ ih=>
  cases i with
  |zero=>
   rw[List.getElem?_cons_zero]at h
   cases h
   exact⟨_,List.getElem?_cons_zero,z⟩
  |succ i=>
   rw[List.getElem?_cons_succ]at h
   rw[List.getElem?_cons_succ]
   exact ih h
theorem Ms{l:List Bytes}{x:Bytes}(h:x∈l):x.length<=l.flatten.length:=by
 induction l with
 |nil=>cases h
 |cons y r ih=>
  rw[List.flatten_cons,List.length_append]
  rcases List.mem_cons.mp h with rfl|h
  ·lia
  ·have:=ih h;lia
theorem KU{α:Type}{l:List α}{f:α->Bytes}(h:∀x,1<=(f x).length):l.length<=(l.map f).flatten.length:=by
 induction l with
 |nil=>exact Nat.zero_le _
 |cons y r ih=>
  rw[List.map_cons,List.flatten_cons,List.length_append,List.length_cons]
  have:=h y
  lia
theorem sY:aI ["node","texts","sign","operand"] ["node"] (aB y4):=⟨rfl,rfl,rfl,by decide +kernel,rfl,by decide +kernel,by decide +kernel⟩
theorem Dz(T:Tx P w K mg a){k n:Nat}(F:ay P w K mg base aW k a.mm a.ma ["chain","operand"] (Ar a n)):ay P w K mg base aW (k+1) a.lM a.lz ["node"] (mv a n):=by
 refine aE.ok (k:=k) T.vw.fn sY (fun vs H Q E h=>?_) (fun cdv A outer s H vs Q E hr h=>?_)
 ·obtain⟨_,_,_,rfl,_⟩:=h;rfl
 obtain⟨v,x,H0,rfl,md,hz,q⟩:=h
 have sz:sizeLine=16777216:=by decide
 refine⟨_,ai (a5 (NC (cX (qb T.pD T.d8 (pv 0)))) (aj (aN (pv 0))) ba)
  (ai (aY (i:=1) sY.nd rfl (Or.inl rfl) (bH (aa (aQ T.zh F hr aU (aa (pv 0) (aa (aD (pv 0) rfl) ag))) ag)))
  (ai (E9 PassesOwn.never rfl (oW (aD (pv 0) rfl)) (Jl rfl (Bm (jW (i:=2) sY.nd rfl (Or.inl rfl)) (Bm (jW (i:=3) sY.nd rfl (Or.inl rfl)) Oy)))
   (aj (a3 ((dv PySem.F.plainAttrs_list PySem.F.slot_list_append PySem.F.type_list_append eB (pv 1) (aa (cY gN (pv 2) (aQ T.zh F hr aU (aa (pv 0) (aa (pv 3) ag)))) ag))))))
  (aj (aN (se aP (pv 1)))))),?_⟩
 obtain⟨F0,hs,sn⟩:=md
 rcases pZ hs with ⟨h0,rfl⟩|⟨m,rfl,c,dx,pl,fv,f,F',vs,prs,lv,rfl,h⟩
 ·refine(gS rfl (.str _) T.zy ?_)
  exact bK (eX _ rfl (q H fun _ _ z=>z))
 refine(gS rfl (kN T h.obj T.d8 T.uh) T.x4 ?_)
 have ht:=OU h.blt h.ju h.ra h.gz h.ne
 have hzt:(c8 lv f).length+(prs.map fun pr=>pr.1::c8 lv pr.2).flatten.length<=4000000:=by rw[<-List.length_append,<-ht];exact hz
 have snF:b9 H0 H F':=fun b hb=>sn b (h.sub b hb)
 refine cw (eX _ rfl (rF rfl h.obj T.d8.cl T.Fk rfl ?_))
 refine⟨c,dx,pl,fv,fv,lv,f,H0,rfl,h.obj,⟨F',h.fst,snF⟩,by lia,fun H1 s1=>⟨(by show 1<=sizeLine;decide),fun l hl=>?_⟩⟩
 have hl0:H l=none:=by
  cases e:H l with
  |none=>rfl
  |some o=>rw[s1 _ _ e]at hl;cases hl
 refine(rF rfl ((s1.trans (aO hl)) _ _ h.obj) T.d8.cl T.uK rfl ⟨pl,rfl,⟨_,aF.of ((s1.trans (aO hl)) _ _ h.lst)⟩,?_⟩)
 refine G9 (K:=K) (a:=pl) (xs:=vs) (fun i σ H'=>aK H H'/\H' l=some (.lst ((c8 lv f::(prs.take i).map fun pr=>pr.1::c8 lv pr.2).map fun t=>V.str (strOf t)))/\∃sg op,σ=[some (.ref c),some (.ref l),sg,op])
  ⟨s1.trans (aO hl),aw,none,none,rfl⟩ (fun i σ H' _ q=>aF.of (q.1 _ _ h.lst)) ?_ ?_
 ·rintro i xv σ H' hi ⟨sm,el,sg,op,rfl⟩
  obtain⟨pr,hp,t,pv,rfl,ft,et,hpv⟩:=h.all.get hi
  refine⟨t,eX _ rfl ⟨fq.of (sm _ _ et),rfl,_,eX _ rfl ⟨_,eX _ rfl ⟨rfl,?_⟩⟩⟩⟩
  have mem:(pr.1::c8 lv pr.2)∈prs.map fun pr=>pr.1::c8 lv pr.2:=List.mem_map.mpr ⟨pr,List.mem_of_getElem? hp,rfl⟩
  have hb:=Ms mem
  rw[List.length_cons]at hb
  have hcnt:=KU (l:=prs) (f:=fun pr=>pr.1::c8 lv pr.2) (fun x=>by simp)
  have hip:i<prs.length:=(List.getElem?_eq_some_iff.mp hp).1
  have mdv:Md (b7 a m) H0 H' pv pr.2:=(show Md (b7 a m) H0 H pv pr.2 from⟨F',hpv,snF⟩).same (dE a m) sm
  refine(eX _ rfl ⟨.inl ⟨rfl,_,aF.of el⟩,eX _ rfl (eX _ rfl (eX _ rfl ?_))⟩)
  refine⟨c,dx,pl,fv,pv,lv,pr.2,H0,rfl,sm _ _ h.obj,mdv,by lia,fun H4 s4=>⟨_,eX _ rfl ⟨rfl,?_,l,_,eX _ rfl ⟨rfl,s4 _ _ el,?_,?_,?_,_,_,rfl⟩⟩⟩⟩
  ·rw[str_len,str_len,List.length_cons,List.length_nil];lia
  ·rw[List.length_map,List.length_cons,List.length_map,List.length_take];lia
  ·intro b o e
   rw[ak (fun z=>by rw[z,hl0]at e;cases e)]
   exact s4 _ _ (sm _ _ e)
  ·rw[aw,dH,List.take_add_one,hp]
   simp
 ·rintro σ H' ⟨sm,el,sg,op,rfl⟩
  rw[h.all.len,List.take_length]at el
  refine⟨⟨_,rfl⟩,eX _ rfl ⟨_,l,(c8 lv f::prs.map fun pr=>pr.1::c8 lv pr.2).map strOf,rfl,rfl,.inl (aF.of (by rw[el,List.map_map];rfl)),?_,?_⟩⟩
  ·rw[u7,Be,List.flatten_cons,List.length_append]
   show _+_*0<=_
   lia
  ·rw[<-qR,tM,join_nil,List.flatten_cons,<-ht]
   exact q H' sm
theorem Dc(T:Tx P w K mg a):∀n,ay P w K mg base aW (2*n+2) a.lM a.lz ["node"] (mv a n)
 |0=>Dz T (k:=1) Km
 |n+1=>Dz T (k:=2*n+2+1) (Kx T (Dc T n))
end Wale
end
section
set_option Elab.async false
set_option linter.all false
set_option maxRecDepth 100000
set_option maxHeartbeats 2000000
namespace Wale
open PySem PySem.Spec PyProof.Rows L2
open Wm
open LsWale (ascii sumText)
variable {P:Program}{w:World}{K:PySem.W.Frag}{mg:Str->Option Value}{base:Heap}{a:Ad}
theorem mem_join(s:Bytes){ys:List Bytes}{x:Bytes}(h:x∈ys):x.length<=(dI s ys).length:=by
 induction ys with
 |nil=>cases h
 |cons y r ih=>
  cases r with
  |nil=>
   rw[List.mem_singleton.mp h];exact Nat.le_refl _
  |cons z r=>
   rw[dI,List.length_append,List.length_append]
   rcases List.mem_cons.mp h with rfl|h
   ·lia
   ·have:=ih h;lia
theorem CS{s:Bytes}(hs:1<=s.length)(ys:List Bytes):ys.length<=(dI s ys).length+1:=by
 induction ys with
 |nil=>exact Nat.zero_le _
 |cons y r ih=>
  cases r with
  |nil=>exact Nat.le_add_left ..
  |cons z r=>
   rw[dI,List.length_append,List.length_append,List.length_cons]
   lia
def yK(a:Ad)(n:Nat):Sp:=fun vs H Q _=>∃(v:V)(s:Bytes)(H0:Hp),vs=[v]/\Md (dm a n) H0 H v s/\s.length<=4000000/\∀H',aK H H'->Q (.str (strOf s)) H'
def Dx(a:Ad)(n:Nat):Sp:=fun vs H Q _=>∃(v:V)(ph:List Bytes)(H0:Hp),vs=[v]/\Md (bG a n) H0 H v ph/\(bw ph).length<=4000000/\∀H',aK H H'->Q (.str (strOf (bw ph))) H'
def vW(a:Ad):Nat->Sp
 |0=>fun _ _ _ _=>False
 |n+1=>fun vs H Q _=>∃(v:V)(ps:List (List Bytes))(H0:Hp),vs=[v]/\Md (gX a (dm a n)) H0 H v ps/\(dh ps).length<=4000000/\∀H',aK H H'->Q (.str (strOf (dh ps))) H'
theorem Iq{k:Nat}{f:Addr}{fd:FuncData}{ps:List Str}:ay P w K mg base aW k f fd ps (vW a 0):=⟨fun _ _ _ _ h=>h.elim,fun _ _ _ _ _ _ _ _ _ _ _ _ _ h=>h.elim⟩
theorem MP:aI ["part"] ["part"] (aB xf):=⟨rfl,rfl,rfl,by decide +kernel,rfl,by decide +kernel,by decide +kernel⟩
theorem DE(T:Tx P w K mg a){k n:Nat}(hk:38<=k)(F:ay P w K mg base aW k a.mz a.mY ["listed"] (vW a n)):ay P w K mg base aW (k+1) a.kL a.k7 ["part"] (yK a n):=by
 refine aE.ok (k:=k) T.Bi.fn MP (fun vs H Q E h=>?_) (fun cdv A outer s H vs Q E hr h=>?_)
 ·obtain⟨_,_,_,rfl,_⟩:=h;rfl
 obtain⟨v,s,H0,rfl,md,hz,q⟩:=h
 have sz:sizeLine=16777216:=by decide
 refine⟨_,ai (a5 (cX (qb T.pD T.ip (pv 0))) (aj (aN (aQ T.yF F hr aU (aa (pv 0) ag)))) ba)
  (ai (a5 (cX (qb T.pD T.ll (pv 0))) (aj (aN (cY gN (cY gN aP (aQ T.yF F hr aU (aa (aD (pv 0) rfl) ag))) aP))) ba)
  (aj (aN (aQ T.vw (Dc T 18) (hr.mono (by first|decide|lia)) aU (aa (pv 0) ag))))),?_⟩
 obtain⟨F0,hp,sn⟩:=md
 have tx:oQ a H F0 v s->∃t,dZ K H v t/\PySem.W.kitOne K t (.ref a.cD)=some false/\PySem.W.kitOne K t (.ref a.cF)=some false/\mv a 18 [v] H Q E:=fun ht=>by
  obtain⟨x,hs,rfl⟩:=ht
  have fin:mv a 18 [v] H Q E:=⟨v,x,H0,rfl,⟨F0,hs,sn⟩,hz,q⟩
  rcases pZ hs with ⟨h0,rfl⟩|⟨m,em,c,dx,pl,fv,f,F',vs,prs,lv,rfl,h⟩
  ·exact⟨_,.str _,T.JQ,T.LJ,fin⟩
  ·exact⟨_,kN T h.obj T.d8 T.uh,T.Ki,T.MB,fin⟩
 have txt:oQ a H F0 v s\/∃m,n=m+1/\((∃ps,gX a (dm a m) H F0 v ps/\s=dh ps)\/∃ps,sV a (dm a m) H F0 v ps/\s=40::(dh ps++[41])):=by
  cases n with
  |zero=>exact .inl hp
  |succ m=>exact hp.elim .inl fun z=>.inr ⟨m,rfl,z⟩
 rcases txt with ht|⟨m,rfl,⟨ps,hl,rfl⟩|⟨ps,hb,rfl⟩⟩
 ·obtain⟨t,ty,k1,k2,fin⟩:=tx ht
  refine(gS rfl ty k1 (cw ?_))
  exact(gS rfl ty k2 (cw (eX _ rfl fin)))
 ·have hl':=hl
  obtain⟨c,dx,lv,rfl,hc,ec,hh⟩:=hl
  refine(gS rfl (kN T ec T.ip T.O9) T.NG (bK ?_))
  exact(eX _ rfl ⟨.ref c,ps,H0,rfl,⟨F0,hl',sn⟩,hz,q⟩)
 ·obtain⟨c,dx,lv,rfl,hc,ec,hl⟩:=hb
  refine(gS rfl (kN T ec T.ll T.ED) T.Jj (cw ?_))
  refine(gS rfl (kN T ec T.ll T.ED) T.OA (bK ?_))
  simp only[List.length_cons,List.length_append,List.length_nil]at hz
  refine(rF rfl ec T.ll.cl T.BR rfl ⟨lv,ps,H0,rfl,⟨F0,hl,sn⟩,by lia,fun H1 s1=>⟨_,eX _ rfl ⟨rfl,?_,_,eX _ rfl ⟨rfl,?_,?_⟩⟩⟩⟩)
  ·rw[mR,str_len,str_len];simp only[List.length_cons,List.length_nil];lia
  ·rw[mR,vF,dH,str_len,str_len];simp only[List.length_cons,List.length_nil,List.length_append];lia
  ·rw[mR,vF,dH,dH]
   exact q H1 s1
theorem zE:aI ["phrase","part"] ["phrase"] (aB vN):=⟨rfl,rfl,rfl,by decide +kernel,rfl,by decide +kernel,by decide +kernel⟩
theorem M1:iX ["phrase","part"] (aB vN) {kind:=.function,names:=[(".0",.local),("part",.local),("part_text",.globalImplicit)],isGenerator:=false,isCoroutine:=false} [("part",1)]:=rf (by decide +kernel)
theorem Gs:(" ":Str)=strOf [32]:=by decide +kernel
theorem Dm:(", ":Str)=strOf (ascii ", "):=by decide +kernel
theorem C8(T:Tx P w K mg a){k n:Nat}(F:ay P w K mg base aW k a.kL a.k7 ["part"] (yK a n)):ay P w K mg base aW (k+1) a.nc a.oI ["phrase"] (Dx a n):=by
 refine aE.ok (k:=k) T.Ao.fn zE (fun vs H Q E h=>?_) (fun cdv A outer s H vs Q E hr h=>?_)
 ·obtain⟨_,_,_,rfl,_⟩:=h;rfl
 obtain⟨v,ph,H0,rfl,⟨F0,⟨l,vs,F',rfl,fl,nl,sub,el,all⟩,sn⟩,hz,q⟩:=h
 have sz:sizeLine=16777216:=by decide
 rw[<-Qp]at hz q
 have snF:b9 H0 H F':=fun b hb=>sn b (sub b hb)
 refine⟨_,aj (aN (se aP (rQ (own:=[("part",1)]) rfl zE.nd (oW (pv 0)) M1 (fun _ _ _ _ _=>jW (i:=1) zE.nd rfl (Or.inl rfl)) (fun _ _ _ _ _=>qH)
  (fun _ _ _ _ _=>aQ T.Bi F hr aU (aa (pv 1) ag))))),?_⟩
 refine⟨⟨_,rfl⟩,eX _ rfl ⟨l,rfl,⟨_,aF.of el⟩,fun D hD=>?_⟩⟩
 refine sT (K:=K) (a:=l) (xs:=vs) (fun i H'=>aK H H'/\H' D=some (.lst ((ph.take i).map fun t=>V.str (strOf t)))) ⟨aO hD,aw⟩ (fun i H' _ q=>aF.of (q.1 _ _ el)) (fun i x H' hi qq=>?_) (fun H' qq=>?_)
 ·obtain⟨sm,hd⟩:=qq
  obtain⟨y,hy,hr1⟩:=all.get hi
  have hb:=mem_join [32] (List.mem_of_getElem? hy)
  have hc:=CS (s:=[32]) (by decide) ph
  have hil:i<ph.length:=(List.getElem?_eq_some_iff.mp hy).1
  refine⟨rfl,eX _ rfl ⟨x,y,H0,rfl,(show Md (dm a n) H0 H x y from⟨F',hr1,snF⟩).same (ck a n) sm,by lia,fun H4 s4=>⟨_,s4 _ _ hd,?_,?_,?_⟩⟩⟩
  ·rw[List.length_map,List.length_take];lia
  ·intro b o e
   rw[ak (fun z=>by rw[z,hD]at e;cases e)]
   exact s4 _ _ (sm _ _ e)
  ·rw[aw,List.take_add_one,hy]
   simp
 ·obtain⟨sm,hd⟩:=qq
  rw[all.len,List.take_length]at hd
  refine⟨_,D,ph.map strOf,rfl,rfl,.inl (aF.of (by rw[hd,List.map_map];rfl)),?_,?_⟩
  ·rw[u7,Gs,str_len,List.length_map]
   have:=D2 [32] ph
   simp only[List.length_cons,List.length_nil]at this ⊢
   lia
  ·rw[Gs,tM]
   exact q H' sm
theorem A5:aI ["listed","phrase"] ["listed"] (aB uz):=⟨rfl,rfl,rfl,by decide +kernel,rfl,by decide +kernel,by decide +kernel⟩
theorem PY:iX ["listed","phrase"] (aB uz) {kind:=.function,names:=[(".0",.local),("phrase",.local),("phrase_text",.globalImplicit)],isGenerator:=false,isCoroutine:=false} [("phrase",1)]:=rf (by decide +kernel)
theorem IK(T:Tx P w K mg a){k n:Nat}(F:ay P w K mg base aW k a.nc a.oI ["phrase"] (Dx a n)):ay P w K mg base aW (k+1) a.mz a.mY ["listed"] (vW a (n+1)):=by
 refine aE.ok (k:=k) T.yF.fn A5 (fun vs H Q E h=>?_) (fun cdv A outer s H vs Q E hr h=>?_)
 ·obtain⟨_,_,_,rfl,_⟩:=h;rfl
 obtain⟨v,ps,H0,rfl,⟨F0,⟨c,dx,lv,rfl,fc,ec,l,vs,F',rfl,fl,nl,sub,el,all⟩,sn⟩,hz,q⟩:=h
 have sz:sizeLine=16777216:=by decide
 unfold dh at hz q
 rw[<-Pn]at hz q
 have snF:b9 H0 H F':=fun b hb=>sn b (sub b hb)
 refine⟨_,aj (aN (se aP (rQ (own:=[("phrase",1)]) rfl A5.nd (oW (aD (pv 0) rfl)) PY (fun _ _ _ _ _=>jW (i:=1) A5.nd rfl (Or.inl rfl)) (fun _ _ _ _ _=>qH)
  (fun _ _ _ _ _=>aQ T.Ao F hr aU (aa (pv 1) ag))))),?_⟩
 refine⟨⟨_,rfl⟩,rF rfl ec T.ip.cl T.Ge rfl ⟨l,rfl,⟨_,aF.of el⟩,fun D hD=>?_⟩⟩
 refine sT (K:=K) (a:=l) (xs:=vs) (fun i H'=>aK H H'/\H' D=some (.lst (((ps.map bw).take i).map fun t=>V.str (strOf t)))) ⟨aO hD,aw⟩ (fun i H' _ q=>aF.of (q.1 _ _ el)) (fun i x H' hi qq=>?_) (fun H' qq=>?_)
 ·obtain⟨sm,hd⟩:=qq
  obtain⟨y,hy,hr1⟩:=all.get hi
  have hy':(ps.map bw)[i]? =some (bw y):=by rw[List.getElem?_map,hy];rfl
  have hb:=mem_join (ascii ", ") (List.mem_of_getElem? hy')
  have hc:=CS (s:=ascii ", ") (by decide) (ps.map bw)
  have hil:i<(ps.map bw).length:=(List.getElem?_eq_some_iff.mp hy').1
  refine⟨rfl,eX _ rfl ⟨x,y,H0,rfl,(show Md (bG a n) H0 H x y from⟨F',hr1,snF⟩).same (cH a n) sm,by lia,fun H4 s4=>⟨_,s4 _ _ hd,?_,?_,?_⟩⟩⟩
  ·rw[List.length_map,List.length_take];lia
  ·intro b o e
   rw[ak (fun z=>by rw[z,hD]at e;cases e)]
   exact s4 _ _ (sm _ _ e)
  ·rw[aw,List.take_add_one,hy']
   simp
 ·obtain⟨sm,hd⟩:=qq
  rw[show vs.length=(ps.map bw).length by rw[List.length_map];exact all.len,List.take_length]at hd
  refine⟨_,D,(ps.map bw).map strOf,rfl,rfl,.inl (aF.of (by rw[hd,List.map_map (l:=ps.map bw) (f:=strOf)];rfl)),?_,?_⟩
  ·rw[u7,Dm,str_len,List.length_map]
   have:=D2 (ascii ", ") (ps.map bw)
   have h2:(ascii ", ").length=2:=rfl
   rw[h2]at this ⊢
   lia
  ·rw[Dm,tM]
   exact q H' sm
theorem A7(T:Tx P w K mg a):∀n,ay P w K mg base aW (39+3*n) a.kL a.k7 ["part"] (yK a n)
 |0=>DE T (k:=38) (by lia) Iq
 |n+1=>DE T (k:=39+3*n+1+1) (by lia) (IK T (C8 T (A7 T n)))
end Wale
end
section
set_option Elab.async false
set_option linter.all false
set_option maxRecDepth 100000
set_option maxHeartbeats 2000000
namespace Wale
open PySem PySem.Spec PyProof.Rows L2
open Wm
open LsWale (ascii sumText indent)
variable {P:Program}{w:World}{K:PySem.W.Frag}{mg:Str->Option Value}{base:Heap}{a:Ad}
abbrev gQ(l:List Bytes):List V:=l.map fun t=>V.str (strOf t)
theorem y6(l:List Bytes):(b5 l).length=(l.map List.length).sum+l.length:=by
 induction l with
 |nil=>rfl
 |cons x r ih=>
  show((x++[10])++b5 r).length=_
  rw[List.length_append,List.length_append,ih,List.map_cons,List.sum_cons]
  simp only[List.length_cons,List.length_nil]
  lia
theorem GQ{l:List Bytes}{x:Bytes}(h:x∈l):x.length+l.length<=(b5 l).length:=by
 rw[y6]
 have:x.length<=(l.map List.length).sum:=by
  induction l with
  |nil=>cases h
  |cons y r ih=>
   rw[List.map_cons,List.sum_cons]
   rcases List.mem_cons.mp h with rfl|h
   ·lia
   ·have:=ih h;lia
 lia
theorem IP(d:Nat):indent d++[32,32]=indent (d+1):=by
 unfold LsWale.indent
 rw[show 2*(d+1)=2*d+2 by lia,<-List.replicate_append_replicate];rfl
theorem BA(d:Nat):(indent d).length=2*d:=by unfold LsWale.indent;rw[List.length_replicate]
def gg(l:Addr)(H H':Hp):Prop:=∀b o,H b=some o->b≠l->H' b=some o
theorem EZ{l:Addr}{H H':Hp}(s:aK H H'):gg l H H':=fun b o e _=>s b o e
theorem gg.trans{l:Addr}{H H1 H2:Hp}(h:gg l H H1)(g:gg l H1 H2):gg l H H2:=fun b o e n=>g b o (h b o e n) n
theorem AZ{l:Addr}{H:Hp}{o:HO}:gg l H (upd H l o):=fun b ob e n=>by rw[ak n];exact e
theorem gg.frame{α:Type}{r:Rep α}(G:Good r){l:Addr}{H0 H H':Hp}{F:Fp}{v:V}{x:α}(g:gg l H H')(h:r H F v x)(sn:b9 H0 H F)(nl:¬F l):r H' F v x/\b9 H0 H' F:=by
 have e:∀b,F b->H' b=H b:=fun b hb=>by
  obtain⟨_,o,eo⟩:=sn b hb
  rw[eo];exact g b o eo fun z=>nl (by rw[<-z];exact hb)
 exact⟨G.frame h e,fun b hb=>⟨(sn b hb).1,by rw[e b hb];exact(sn b hb).2⟩⟩
def wL(a:Ad)(n:Nat):Sp:=fun vs H Q _=>∃(l:Addr)(v:V)(d:Nat)(f:Nat->List Bytes)(ls:List Bytes)(F:Fp)(H0:Hp),vs=[.ref l,v,.str (strOf (indent d))]/\H l=some (.lst (gQ ls))/\dU a n H F v f/\b9 H0 H F/\¬F l/\
 (b5 (ls++f d)).length<=4000000/\∀H',H' l=some (.lst (gQ (ls++f d)))->gg l H H'->Q .ax H'
def A4(a:Ad):Nat->Sp
 |0=>fun _ _ _ _=>False
 |n+1=>fun vs H Q _=>∃(l:Addr)(v:V)(d:Nat)(fs:List (Nat->List Bytes))(ls:List Bytes)(F:Fp)(H0:Hp),vs=[.ref l,v,.str (strOf (indent d))]/\H l=some (.lst (gQ ls))/\cE (dU a n) H F v fs/\b9 H0 H F/\¬F l/\
  (b5 (ls++fs.flatMap fun f=>f d)).length<=4000000/\∀H',H' l=some (.lst (gQ (ls++fs.flatMap fun f=>f d)))->gg l H H'->Q .ax H'
theorem NO{k:Nat}{f:Addr}{fd:FuncData}{ps:List Str}:ay P w K mg base aW k f fd ps (A4 a 0):=⟨fun _ _ _ _ h=>h.elim,fun _ _ _ _ _ _ _ _ _ _ _ _ _ h=>h.elim⟩
theorem Fq:(";":Str)=strOf [59]:=by decide +kernel
theorem Cq:(" {":Str)=strOf (ascii " {"):=by decide +kernel
theorem GX:("}":Str)=strOf [125]:=by decide +kernel
theorem Fy:("  ":Str)=strOf [32,32]:=by decide +kernel
theorem yl(l:List Bytes)(x:Bytes):gQ l++[.str (strOf x)]=gQ (l++[x]):=by
 unfold gQ;rw[List.map_append];rfl
theorem Gy:aI ["lines","stat","indent","start"] ["lines","stat","indent"] (aB yo):=⟨rfl,rfl,rfl,by decide +kernel,rfl,by decide +kernel,by decide +kernel⟩
theorem Dh(T:Tx P w K mg a){k n:Nat}(hk:70<=k)(F:ay P w K mg base aW k a.oA a.ou ["lines","stats","indent"] (A4 a n)):ay P w K mg base aW (k+1) a.kI a.lq ["lines","stat","indent"] (wL a n):=by
 refine aE.ok (k:=k) T.GY.fn Gy (fun vs H Q E h=>?_) (fun cdv A outer s H vs Q E hr h=>?_)
 ·obtain⟨_,_,_,_,_,_,_,rfl,_⟩:=h;rfl
 obtain⟨l,v,d,f,ls,F0,H0,rfl,el,hs,sn,nl,hz,q⟩:=h
 have sz:sizeLine=16777216:=by decide
 refine⟨_,ai (aY (i:=3) Gy.nd rfl (Or.inl rfl) (cY gN (pv 2) (aQ T.Ao (C8 T (A7 T 10)) (hr.mono (by first|decide|lia)) aU (aa (aD (pv 1) rfl) ag))))
  (ai (a5 (a6 Dy (aD (pv 1) rfl) ij (a4 _)) (ai (a3 ((dv PySem.F.plainAttrs_list PySem.F.slot_list_append PySem.F.type_list_append eB (pv 0) (aa (cY gN (pv 3) aP) ag)))) (aj Hg)) ba)
  (ai (a3 ((dv PySem.F.plainAttrs_list PySem.F.slot_list_append PySem.F.type_list_append eB (pv 0) (aa (cY gN (pv 3) aP) ag))))
  (ai (a3 (aQ T.xx F hr aU (aa (pv 0) (aa (aD (pv 1) rfl) (aa (cY gN (pv 2) (bB T.Pp)) ag)))))
  (aj (a3 ((dv PySem.F.plainAttrs_list PySem.F.slot_list_append PySem.F.type_list_append eB (pv 0) (aa (cY gN (pv 2) aP) ag)))))))),?_⟩
 have cs:(∃(c dx:Addr)(pv:V)(ph:List Bytes),v=.ref c/\F0 c/\H c=some (.ins a.dR dx [("phrase",pv),("body",.ax)])/\bG a 10 H F0 pv ph/\FJ ph f)\/
   ∃m,n=m+1/\AK a (dU a m) H F0 v f:=by
  cases n with
  |zero=>exact .inl hs
  |succ m=>exact hs.elim .inl fun z=>.inr ⟨m,rfl,z⟩
 rcases cs with ⟨c,dx,pv,ph,rfl,fc,ec,hp,hf⟩|⟨m,rfl,c,dx,pv,bv,ph,fs,rfl,fc,ec,hp,hb,hf⟩
 ·rw[hf d]at hz q
  have hm:=GQ (l:=ls++[indent d++(bw ph++[59])]) (List.mem_append_right _ (List.mem_singleton_self _))
  simp only[List.length_append,List.length_singleton,List.length_cons,List.length_nil]at hm
  refine(eX _ rfl (rF rfl ec T.c9.cl T.wI rfl ⟨pv,ph,H0,rfl,⟨F0,hp,sn⟩,by lia,fun H1 s1=>⟨_,eX _ rfl ⟨rfl,?_,?_⟩⟩⟩))
  ·rw[str_len,str_len];lia
  rw[dH]
  refine(rF rfl (s1 _ _ ec) T.c9.cl T.tZ rfl ⟨rfl,eX _ rfl (bK ?_)⟩)
  refine(eX _ rfl ⟨.inl ⟨rfl,_,aF.of (s1 _ _ el)⟩,eX _ rfl ⟨_,eX _ rfl ⟨rfl,?_,l,_,eX _ rfl ⟨rfl,s1 _ _ el,?_,?_⟩⟩⟩⟩)
  ·rw[Fq,str_len,str_len];simp only[List.length_append,List.length_cons,List.length_nil];lia
  ·rw[List.length_map];lia
  ·rw[Fq,dH,yl,List.append_assoc]
   exact q _ aw ((EZ s1).trans AZ)
 ·rw[hf d]at hz q
  obtain⟨lb,bvs,FB,rfl,fb,nb,subB,elb,allB⟩:=hb
  have hb:cE (dU a m) H F0 (.ref lb) fs:=⟨lb,bvs,FB,rfl,fb,nb,subB,elb,allB⟩
  have hzz:(b5 ls).length+(indent d++(bw ph++ascii " {")).length+1+(b5 (fs.flatMap fun g=>g (d+1))).length+(indent d++[125]).length+1<=4000000:=by
   rw[iY]at hz
   rw[show b5 ((indent d++(bw ph++ascii " {"))::(fs.flatMap (fun g=>g (d+1))++[indent d++[125]]))=(indent d++(bw ph++ascii " {"))++[10]++b5 (fs.flatMap (fun g=>g (d+1))++[indent d++[125]])from rfl,iY]at hz
   rw[show b5 [indent d++[125]]=(indent d++[125])++[10]++[]from rfl]at hz
   simp only[List.length_append,List.length_singleton,List.length_cons,List.length_nil]at hz ⊢
   lia
  simp only[List.length_append,List.length_singleton,List.length_cons,List.length_nil]at hzz
  have hb2:(ascii " {").length=2:=rfl
  have lnl:=y6 ls
  refine(eX _ rfl (rF rfl ec T.c9.cl T.wI rfl ⟨pv,ph,H0,rfl,⟨F0,hp,sn⟩,by lia,fun H1 s1=>⟨_,eX _ rfl ⟨rfl,?_,?_⟩⟩⟩))
  ·rw[str_len,str_len];lia
  rw[dH]
  refine(rF rfl (s1 _ _ ec) T.c9.cl T.tZ rfl ⟨rfl,eX _ rfl (cw ?_)⟩)
  refine(eX _ rfl ⟨.inl ⟨rfl,_,aF.of (s1 _ _ el)⟩,eX _ rfl ⟨_,eX _ rfl ⟨rfl,?_,l,_,eX _ rfl ⟨rfl,s1 _ _ el,?_,?_⟩⟩⟩⟩)
  ·rw[Cq,str_len,str_len];simp only[List.length_append];lia
  ·rw[List.length_map];lia
  rw[Cq,dH,yl,List.append_assoc]
  have g2:gg l H (upd H1 l (.lst (gQ (ls++[indent d++(bw ph++ascii " {")])))):=(EZ s1).trans AZ
  have ncl:c≠l:=fun z=>nl (by rw[<-z];exact fc)
  refine(eX _ rfl (rF rfl (g2 _ _ ec ncl) T.c9.cl T.tZ rfl (eX _ rfl ⟨_,eX _ rfl ⟨rfl,?_,?_⟩⟩)))
  ·rw[str_len,Fy,str_len,BA];rw[BA]at hzz;simp only[List.length_cons,List.length_nil];lia
  rw[Fy,dH,IP]
  obtain⟨hb',sn'⟩:=g2.frame (bT (gE a m)) hb sn nl
  refine⟨l,.ref lb,d+1,fs,ls++[indent d++(bw ph++ascii " {")],F0,H0,rfl,aw,hb',sn',nl,?_,fun H3 el3 g3=>?_⟩
  ·rw[iY,iY,show b5 [indent d++(bw ph++ascii " {")]=(indent d++(bw ph++ascii " {"))++[10]++[]from rfl]
   simp only[List.length_append,List.length_singleton,List.length_cons,List.length_nil]
   lia
  have lnf:=y6 (fs.flatMap fun g=>g (d+1))
  refine(eX _ rfl ⟨.inl ⟨rfl,_,aF.of el3⟩,eX _ rfl ⟨_,eX _ rfl ⟨rfl,?_,l,_,eX _ rfl ⟨rfl,el3,?_,?_⟩⟩⟩⟩)
  ·rw[GX,str_len,str_len];simp only[List.length_cons,List.length_nil];lia
  ·rw[List.length_map,List.length_append,List.length_append,List.length_singleton];lia
  ·rw[GX,dH,yl]
   refine q _ ?_ ((g2.trans g3).trans AZ)
   rw[aw,List.append_assoc,List.append_assoc]
   rfl
theorem G7:aI ["lines","stats","indent","stat"] ["lines","stats","indent"] (aB yu):=⟨rfl,rfl,rfl,by decide +kernel,rfl,by decide +kernel,by decide +kernel⟩
theorem Ca(T:Tx P w K mg a){k n:Nat}(F:ay P w K mg base aW k a.kI a.lq ["lines","stat","indent"] (wL a n)):ay P w K mg base aW (k+1) a.oA a.ou ["lines","stats","indent"] (A4 a (n+1)):=by
 refine aE.ok (k:=k) T.xx.fn G7 (fun vs H Q E h=>?_) (fun cdv A outer s H vs Q E hr h=>?_)
 ·obtain⟨_,_,_,_,_,_,_,rfl,_⟩:=h;rfl
 obtain⟨l,v,d,fs,ls,F0,H0,rfl,el,hs,sn,nl,hz,q⟩:=h
 refine⟨_,aj (E9 PassesOwn.never rfl (oW (pv 1)) (jW (i:=3) G7.nd rfl (Or.inl rfl)) (aj (a3 (aQ T.GY F hr aU (aa (pv 0) (aa (pv 3) (aa (pv 2) ag))))))),?_⟩
 obtain⟨lb,vs,FB,rfl,fb,nb,subB,elb,allB⟩:=hs
 have nlb:lb≠l:=fun z=>nl (by rw[<-z];exact fb)
 have nFB:¬FB l:=fun z=>nl (subB _ z)
 have snB:b9 H0 H FB:=fun b hb=>sn b (subB b hb)
 refine(eX _ rfl ⟨lb,rfl,⟨_,aF.of elb⟩,?_⟩)
 refine G9 (K:=K) (a:=lb) (xs:=vs) (fun i σ H'=>gg l H H'/\H' l=some (.lst (gQ (ls++(fs.take i).flatMap fun f=>f d)))/\∃st,σ=[some (.ref l),some (.ref lb),some (.str (strOf (indent d))),st])
  ⟨fun b o e _=>e,by rw[el];show _=some (HO.lst (gQ (ls++[])));rw[List.append_nil],none,rfl⟩ (fun i σ H' _ q=>aF.of (q.1 _ _ elb nlb)) ?_ ?_
 ·rintro i xv σ H' hi ⟨g,el',st,rfl⟩
  obtain⟨f,hf,hr1⟩:=allB.get hi
  obtain⟨hr',sn'⟩:=g.frame (gE a n) hr1 snB nFB
  have split:(fs.take (i+1)).flatMap (fun f=>f d)=(fs.take i).flatMap (fun f=>f d)++f d:=by
   rw[List.take_add_one,hf,List.flatMap_append]
   show _++(f d++[])=_
   rw[List.append_nil]
  have pre:(b5 ((ls++(fs.take i).flatMap fun f=>f d)++f d)).length<=4000000:=by
   rw[List.append_assoc,<-split]
   have e:fs.flatMap (fun f=>f d)=(fs.take (i+1)).flatMap (fun f=>f d)++(fs.drop (i+1)).flatMap (fun f=>f d):=by rw[<-List.flatMap_append,List.take_append_drop]
   rw[e,<-List.append_assoc,iY,List.length_append]at hz
   lia
  refine(eX _ rfl (eX _ rfl (eX _ rfl ⟨l,xv,d,f,ls++(fs.take i).flatMap (fun f=>f d),FB,H0,rfl,el',hr',sn',nFB,pre,fun H4 e4 g4=>⟨g.trans g4,?_,_,rfl⟩⟩)))
  rw[e4,split,List.append_assoc]
 ·rintro σ H' ⟨g,el',st,rfl⟩
  rw[allB.len,List.take_length]at el'
  exact q H' el' g
theorem Fi(T:Tx P w K mg a):∀n,ay P w K mg base aW (71+2*n) a.kI a.lq ["lines","stat","indent"] (wL a n)
 |0=>Dh T (k:=70) (by lia) NO
 |n+1=>Dh T (k:=71+2*n+1) (by lia) (Ca T (Fi T n))
end Wale
end
section
set_option Elab.async false
set_option linter.all false
set_option maxRecDepth 100000
set_option maxHeartbeats 2000000
namespace Wale
open PySem PySem.Spec PyProof.Rows L2
open Wm
open LsWale (ascii sumText indent)
variable {P:Program}{w:World}{K:PySem.W.Frag}{mg:Str->Option Value}{base:Heap}{a:Ad}
def Il(a:Ad):Sp:=fun vs H Q _=>∃(v:V)(pt:LsWale.Pattern)(H0:Hp),vs=[v]/\Md (yL a) H0 H v pt/\(LsWale.print pt).length<=4000000/\∀H',aK H H'->Q (.str (strOf (LsWale.print pt))) H'
theorem uR:aI ["stats","lines","line"] ["stats"] (aB ve):=⟨rfl,rfl,rfl,by decide +kernel,rfl,by decide +kernel,by decide +kernel⟩
theorem Mt:iX ["stats","lines","line"] (aB ve) {kind:=.function,names:=[(".0",.local),("line",.local)],isGenerator:=false,isCoroutine:=false} [("line",2)]:=rf (by decide +kernel)
theorem Et:("\n":Str)=strOf [10]:=by decide +kernel
theorem Bv(l:List Bytes):(l.map fun t=>t++[10]).flatten=b5 l:=by unfold b5;rw[List.flatMap_def]
theorem Mf(T:Tx P w K mg a):ay P w K mg base aW 91 a.qt a.sj ["stats"] (Il a):=by
 refine aE.ok (k:=90) T.Ce.fn uR (fun vs H Q E h=>?_) (fun cdv A outer s H vs Q E hr h=>?_)
 ·obtain⟨_,_,_,rfl,_⟩:=h;rfl
 obtain⟨v,pt,H0,rfl,⟨F,⟨fs,hfs,efs⟩,sn⟩,hz,q⟩:=h
 have sz:sizeLine=16777216:=by decide
 refine⟨_,ai (aY (i:=1) uR.nd rfl (Or.inl rfl) (bH ag))
  (ai (a3 (aQ T.xx (Ca T (Fi T 9)) hr aU (aa (pv 1) (aa (pv 0) (aa aP ag)))))
  (aj (aN (se aP (rQ (own:=[("line",2)]) rfl uR.nd (oW (pv 1)) Mt (fun _ _ _ _ _=>jW (i:=2) uR.nd rfl (Or.inl rfl)) (fun _ _ _ _ _=>qH)
   (fun _ _ _ _ _=>cY gN (pv 2) aP)))))),?_⟩
 refine⟨(by show 0<=sizeLine;decide),fun l hl=>?_⟩
 have nl:¬F l:=fun z=>by obtain⟨_,o,e⟩:=sn l z;rw[hl]at e;cases e
 have s1:aK H (upd H l (.lst [])):=aO hl
 rw[<-efs]at hz q
 refine(eX _ rfl (eX _ rfl ?_))
 refine⟨l,v,0,fs,[],F,H0,(by rw[<-qR];rfl),aw,(bT (gE a 9)).frame hfs (sn.vK s1),sn.same s1,nl,hz,fun H2 e2 g2=>?_⟩
 have sm2:aK H H2:=fun b o e=>g2 b o (s1 b o e) (d7 e hl)
 rw[List.nil_append]at e2
 refine⟨⟨_,rfl⟩,eX _ rfl ⟨l,rfl,⟨_,aF.of e2⟩,fun D hD=>?_⟩⟩
 have hD0:H D=none:=by
  cases e:H D with
  |none=>rfl
  |some o=>rw[sm2 _ _ e]at hD;cases hD
 refine sT (K:=K) (a:=l) (xs:=gQ (fs.flatMap fun f=>f 0)) (fun i H'=>aK H2 H'/\H' D=some (.lst (((fs.flatMap fun f=>f 0).take i).map fun t=>V.str (strOf (t++[10]))))) ⟨aO hD,aw⟩ (fun i H' _ q=>aF.of (q.1 _ _ e2)) (fun i x H' hi qq=>?_) (fun H' qq=>?_)
 ·obtain⟨sm,hd⟩:=qq
  rw[List.getElem?_map]at hi
  obtain⟨y,hy,rfl⟩:=Option.map_eq_some_iff.mp hi
  have hm:=GQ (List.mem_of_getElem? hy)
  have hil:=(List.getElem?_eq_some_iff.mp hy).1
  refine⟨rfl,eX _ rfl ⟨_,eX _ rfl ⟨rfl,?_,_,hd,?_,?_,?_⟩⟩⟩
  ·rw[Et,str_len,str_len];simp only[List.length_cons,List.length_nil];lia
  ·rw[List.length_map,List.length_take];lia
  ·intro b o e
   rw[ak (d7 e hD)]
   exact sm _ _ e
  ·rw[aw,List.take_add_one,hy,Et,dH]
   simp
 ·obtain⟨sm,hd⟩:=qq
  rw[List.length_map,List.take_length]at hd
  refine⟨_,D,((fs.flatMap fun f=>f 0).map fun t=>t++[10]).map strOf,rfl,rfl,.inl (aF.of (by rw[hd,List.map_map,List.map_map];rfl)),?_,?_⟩
  ·rw[u7,Be]
   have e:((fs.flatMap fun f=>f 0).map fun t=>t++[10]).flatten=b5 (fs.flatMap fun f=>f 0):=by
    exact Bv _
   rw[e]
   show _+_*0<=_
   lia
  ·have e:((fs.flatMap fun f=>f 0).map fun t=>t++[10]).flatten=b5 (fs.flatMap fun f=>f 0):=by
    exact Bv _
   rw[<-qR,tM,join_nil,e]
   exact q H' (sm2.trans sm)
end Wale
end
section
set_option Elab.async false
set_option linter.all false
set_option maxRecDepth 100000
set_option maxHeartbeats 2000000
namespace Wale
open PySem PySem.Spec PyProof.Rows L2
open Wm
open LsWale (Fault)
variable {P:Program}{w:World}{K:PySem.W.Frag}{mg:Str->Option Value}{base:Heap}{a:Ad}
theorem HH:lst .none_=GO:=by funext j;cases j<;>rfl
theorem FH{K:PySem.W.Frag}{H H':Hp}{t x C dx:Addr}{fs:List (Str×V)}{xs:List V}(h:aF K H t xs)(e:H x=some (.ins C dx fs))(k:∀b o,H b=some o->b≠x->H' b=some o):aF K H' t xs:=by
 rcases h with (h|⟨o,h⟩)|h
 ·exact .inl (.inl (k _ _ h (bQ h e (fun z=>nomatch z))))
 ·exact .inl (.inr ⟨o,k _ _ h (bQ h e (fun z=>nomatch z))⟩)
 ·exact .inr h
def Kc(K:PySem.W.Frag)(a:Ad):Sp:=fun vs H Q _=>∃(x dx t:Addr)(b:Bytes),vs=[.ref x,.ref t]/\H x=some (.ins a.bj dx [])/\aF K H t (nums b)/\b.length<=20000/\
 ∀(H':Hp)(R:RA),R.r=x->aq a K b R 0 0 (lst .none_) H'->(∀b o,H b=some o->b≠x->H' b=some o)->Q .ax H'
theorem Mg:aI ["self","t"] ["self","t"] (aB zt):=⟨rfl,rfl,rfl,by decide +kernel,rfl,by decide +kernel,by decide +kernel⟩
theorem Mp(T:Tx P w K mg a):ay P w K mg base aW 3 a.kT a.o4 ["self","t"] (Kc K a):=by
 refine T.Ci.1.ok Mg (fun vs H Q E h=>?_) (fun cdv A outer s H vs Q E hr h=>?_)
 ·obtain⟨_,_,_,_,rfl,_⟩:=h;rfl
 obtain⟨x,dx,t,b,rfl,hx,hS,hl,q⟩:=h
 refine⟨_,ai (c6 (pv 0) (pv 1) rfl) (ai (c6 (pv 0) ij rfl) (ai (c6 (pv 0) bW rfl) (ai (c6 (pv 0) bW rfl)
  (aj (c6 (pv 0) (Ob T.cA.eJ (OY T) hr rfl T.cA.at_ T.Ei.2 .nil aU) rfl))))),?_⟩
 have C:=T.bE.cl
 refine(eX _ rfl (eX _ rfl ⟨x,_,dx,eX _ rfl ⟨hx,C,T.Bn,(by show 0<1000;decide),?_⟩⟩))
 refine(eX _ rfl ⟨x,_,dx,eX _ rfl ⟨aw,C,T.nq,(by show 1<1000;decide),?_⟩⟩)
 refine(eX _ rfl ⟨x,_,dx,eX _ rfl ⟨aw,C,T.Av,(by show 2<1000;decide),?_⟩⟩)
 refine(eX _ rfl ⟨x,_,dx,eX _ rfl ⟨aw,C,T.va,(by show 3<1000;decide),?_⟩⟩)
 generalize hH4:upd (upd (upd (upd H x _) x _) x _) x _=H4
 have e4:H4 x=some (.ins a.bj dx [("source",.ref t),("ahead",.ax),("after",.int 0),("depth",.int 0)]):=by rw[<-hH4];exact aw
 have k4:∀b o,H b=some o->b≠x->H4 b=some o:=fun b o e hb=>by rw[<-hH4,ak hb,ak hb,ak hb,ak hb];exact e
 intro n dn nn nd ne
 refine⟨n,dn,rfl,aw,fun H5 N en nm k5=>⟨rfl,?_⟩⟩
 have s5:aK H4 H5:=aK.made nn nd k5
 refine(eX _ rfl ⟨x,_,dx,eX _ rfl ⟨s5 _ _ e4,C,T.fP,(by show 4<1000;decide),?_⟩⟩)
 obtain⟨k1,e1,t1⟩:=nm.fZ
 obtain⟨k2,e2,t2⟩:=nm.ib
 obtain⟨k3,e3,t3⟩:=nm.gj
 obtain⟨d0,e0⟩:=nm.obj
 have ex:=s5 _ _ e4
 have nx:N.n≠x:=by
  rw[en]
  exact fun z=>by rw[z,e4]at nn;cases nn
 subst en
 refine q _ ⟨x,t,N⟩ rfl ⟨⟨dx,.ax,aw,.inl rfl⟩,?_,?_,hl,Nat.zero_le _⟩ fun c o ec hc=>?_
 ·exact FH hS hx fun c o ec hc=>by rw[ak hc];exact s5 _ _ (k4 c o ec hc)
 ·rw[HH]
  refine⟨⟨d0,?_⟩,⟨k1,?_,t1⟩,⟨k2,?_,t2⟩,⟨k3,?_,t3⟩,nm.ne,nm.bd⟩
  ·rw[ak nx];exact e0
  ·rw[ak (bQ e1 ex (fun z=>nomatch z))];exact e1
  ·rw[ak (bQ e2 ex (fun z=>nomatch z))];exact e2
  ·rw[ak (bQ e3 ex (fun z=>nomatch z))];exact e3
 ·rw[ak hc];exact s5 _ _ (k4 c o ec hc)
def PZ(K:PySem.W.Frag)(a:Ad):Sp:=fun vs H Q E=>∃(t:Addr)(b:Bytes),vs=[.ref t]/\aF K H t (nums b)/\b.length<=20000/\(∀k pl:Nat,LsWale.readAll b=.error ⟨k,pl⟩->Told K a E k pl)/\(∀x e,LsWale.readAll b=.ok (x,e)->∀(H':Hp)(v:V)(H0:Hp),(∀t' xs,aF K H t' xs->aF K H' t' xs)->Md (yL a) H0 H' v x->Q v H')
theorem OO:aI ["t"] ["t"] (aB wC):=⟨rfl,rfl,rfl,by decide +kernel,rfl,by decide +kernel,by decide +kernel⟩
theorem Hl{b:Bytes}{k pl:Nat}(h:bJ (j6 (ae b 0 .none_)) k pl):j6 (ae b 0 .none_)=.error ⟨k,pl⟩:=by
 rcases h with h|⟨x,s,h,hb⟩
 ·exact h
 ·exfalso
  unfold j6 at h
  have step:∀{α β:Type}{r:Except Fault α}{f:α->Except Fault β}{y:β},(r>>=f)=.ok y->∃z,r=.ok z/\f z=.ok y:=fun{α β r f y}q=>by
   cases r with
   |error f=>cases q
   |ok z=>exact⟨z,rfl,q⟩
  obtain⟨s1,_,h⟩:=step h
  obtain⟨n,_,h⟩:=step h
  obtain⟨t,_,h⟩:=step h
  obtain⟨hs,_,h⟩:=step h
  obtain⟨⟨x2,⟨ts,en⟩⟩,_,h⟩:=step h
  obtain⟨rr,hb⟩:=hb
  unfold gO at h
  cases ts with
  |nil=>cases h
  |cons tk r=>
   obtain⟨q,tt⟩:=tk
   cases tt with
   |done=>cases h;cases hb
   |_=>cases h
theorem LP(T:Tx P w K mg a):ay P w K mg base (bh P w) 99 a.qu a.qE ["t"] (PZ K a):=by
 refine aE.bx (k:=98) T.BK.fn OO (fun vs H Q E h=>?_) (fun cdv A outer s H vs Q E hr h=>?_)
 ·obtain⟨_,_,rfl,_⟩:=h;rfl
 obtain⟨t,b,rfl,hS,hl,k1,k2⟩:=h
 refine⟨_,ai (a5 (a6 jU (kQ T.gB (pv 0)) (cP T.Co) (a4 _)) (aj (eY rfl fj T.jB (vO T) T.qf.2 (hr.mono (by first|decide|lia)) (cP T.Co))) ba)
  (aj (aN (aQ T.Gk (Ik T) hr au (aa (eP T.bE.eJ (Mp T) (hr.mono (by first|decide|lia)) rfl T.bE.at_ T.Ci.2 .nil aU (aa (pv 0) ag)) ag)))),?_⟩
 refine(eX _ rfl ⟨t,eX _ rfl ⟨.inl hS,_,eX _ rfl ⟨rfl,eX _ rfl ?_⟩⟩⟩)
 rw[eZ]
 refine aV (fun c=>?_) (fun c=>?_)
 ·have c':LsWale.MOST<b.length:=by have:=of_decide_eq_true c;show 16384<b.length;lia
  exact eA T.jB (k1 6 16384 (by unfold LsWale.readAll;rw[if_pos c'];rfl))
 have c':b.length<=LsWale.MOST:=by
  have:¬((16384:Int)<b.length):=fun z=>c (decide_eq_true z)
  show b.length<=16384
  lia
 refine(eX _ rfl (fun x dx nx nd ne=>?_))
 have s1:aK H (upd (upd H dx (.own x)) x (.ins a.bj dx [])):=fun c o ec=>by rw[ak (d7 ec nx),ak (d7 ec nd)];exact ec
 refine⟨x,dx,t,b,rfl,aw,s1.seq hS,hl,fun H' R er hR kp=>⟨rfl,b,R,(by rw[er];rfl),hR,fun k pl hb=>k1 k pl ?_,fun p s' hx H2 v kp2 md=>k2 p s'.env ?_ H2 v H' ?_ md⟩⟩
 ·rw[DU c',DF,Hl hb];rfl
 ·rw[DU c',DF,hx];rfl
 ·intro t' xs hq
  exact aF.keepR (FH (s1.seq hq) aw kp) hR kp2
end Wale
end
section
set_option Elab.async false
set_option linter.all false
set_option maxRecDepth 100000
set_option maxHeartbeats 2000000
namespace L2
open PySem PySem.Spec PyProof.Rows
structure yk(k:Nat)(A:Around):Prop where
 dp:A.depth+3*k+5<recursionLimit
 un:A.units+16*k+200<cLine
def yV(pn:List (Addr×Obj))(outer:List Env)(s:Shared)(H:Hp):Prop:=∀p∈pn,s.heap.get? p.1=some p.2/\H p.1=none/\p.1∉cv outer/\∀v,p.2.data≠ .cell v
structure vg(P:Program)(w:World)(K:PySem.W.Frag)(mg:Str->Option Value)(base:Heap)(k:Nat)(f:Addr)(fd:FuncData)(ps:List Str)(sp:List (Addr×Obj)->Sp):Prop where
 len:∀pn vs H Q E,sp pn vs H Q E->vs.length=ps.length
 run:∀(A:Around)(outer:List Env)(s:Shared)(H:Hp)(args:Args)(us:List Value)(vs:List V)(Q:VK)(pn:List (Addr×Obj)),yk k A->iB P w K mg base A outer s H->yV pn outer s H->BindsTo s fd args (ps.zip us)->aT vs us->sp pn vs H Q E0->
  codeAny (model P w) A (.call (.ref f) args) (CR aW outer P w H s Q E0) s
abbrev rE(P:Program)(w:World)(K:PySem.W.Frag)(mg:Str->Option Value)(base:Heap)(N:List Str)(qual:Str)(scope:Scope)(f:Addr)(cd:Value)(A:Around)(outer:List Env)(s:Shared)(H:Hp)(pn:List (Addr×Obj)):Cx:=
 {fN aW P w K mg base N qual scope f cd A outer s H E0 with calm:=false,pn:=pn}
theorem JC{P:Program}{w:World}{K:PySem.W.Frag}{mg:Str->Option Value}{base:Heap}{N ps:List Str}{qual:Str}{scope:Scope}{f:Addr}{cd:Value}{A:Around}{outer:List Env}{s s1:Shared}{H:Hp}{us:List Value}{vs:List V}{pn:List (Addr×Obj)}
  (S:aI N ps scope) (e0:iB P w K mg base A outer s H) (hp:yV pn outer s H) (hl:vs.length=ps.length) (r:aT vs us)
  (x:InCallC s s.heap.objs.size (bindL (envOfC qual scope s.heap.objs.size f cd).kindOf (ps.zip us) fun _=>none) (cellsFrom (s.heap.objs.size+1) scope.names []) (bindC (envOfC qual scope s.heap.objs.size f cd).kindOf (ps.zip us) fun _=>none) s1):
  Inv (rE P w K mg base N qual scope f cd A outer s H pn) [] (start N vs) H s1:=by
 have e1:iB P w K mg base {A with handled:=none} outer s H:=⟨e0.frames,e0.mod,e0.bs,e0.fA,e0.dX,e0.fW,e0.aA,e0.bare⟩
 have I:=BE (CX:=aW) (E:=E0) S (A:={A with handled:=none}) rfl e1 hl r x
 have hk:=x.toInCall.keep
 refine⟨⟨I.ok.mod,I.ok.kind,I.ok.glob,I.ok.blt,I.ok.above,I.ok.inj,I.ok.has,I.ok.jl,(fun z=>by cases z),Around.frames_deeper e0.frames,I.ok.jj,I.ok.jJ,I.ok.bs,I.ok.fA,I.ok.iR,I.ok.iP,I.ok.dX,I.ok.fW⟩,
  I.os,I.bare,I.base,I.loc,I.cell,I.free,I.dQ,fun p hpp=>?_,I.aA,I.len⟩
 have hpn:p∈pn:=by
  have:p∈pn++[]:=hpp
  rwa [List.append_nil]at this
 obtain⟨h1,h2,h3,h4⟩:=hp p hpn
 exact⟨hk _ _ h1,h2,Nat.ne_of_lt (Heap.lt_size h1),h3,h4⟩
theorem Qi{P:Program}{w:World}{K:PySem.W.Frag}{mg:Str->Option Value}{base:Heap}{k:Nat}{f:Addr}{name qual:Str}{params:Arguments}{body:List Stmt}{scope:Scope}{dV kV doc pm cdv ct oc:Value}{an od:Option Addr}
  {osl:Array (Option Value)} {N ps:List Str} {sp:List (Addr×Obj)->Sp} (lk:K.lookup f=some ⟨oc,od,.func (PySem.W.fnOf name qual params body scope dV kV doc pm an cdv ct),osl⟩) (hcd:PySem.W.codeIn K cdv qual=true) (S:aI N ps scope)
  (len:∀pn vs H Q E,sp pn vs H Q E->vs.length=ps.length)
  (hbody:∀(A:Around)(outer:List Env)(s:Shared)(H:Hp)(vs:List V)(Q:VK)(pn:List (Addr×Obj)),sp pn vs H Q E0->
   ∃t,dS (rE P w K mg base N qual scope f cdv A outer s H pn) body t/\t {nx:=fun _ H'=>Q .ax H',rt:=Q} (start N vs) H):
  vg P w K mg base (k+1) f (PySem.W.fnOf name qual params body scope dV kV doc pm an cdv ct) ps sp:=by
 refine⟨len,fun A outer s H args us vs Q pn hr e0 hp hb r hsp=>?_⟩
 have hl:=len _ _ _ _ _ hsp
 have KX:K.In s.heap:=e0.mod.iW.keeps fun b o e=>(e0.bs b o e).1
 have lim:s.heap.NoLimit:=e0.mod.nolimit.keeps fun b o e=>(e0.bs b o e).1
 have hkind:∀y∈ps.zip us,scope.names.lookup y.1=some .local\/(scope.names.lookup y.1=some .cell/\((cellsFrom (s.heap.objs.size+1) scope.names []).lookup y.1).isSome=true):=fun⟨n,v⟩hy=>by
  rcases S.par n (List.of_mem_zip hy).1 with q|q
  ·exact .inl q
  ·exact .inr ⟨q,PySem.W.cellsFrom_some _ _ _ (.inl q)⟩
 refine codeAny_call_function (by have:=hr.dp;lia) (KX _ _ lk) rfl S.co S.gen rfl (PySem.W.codeRec_of KX hcd) (hb _ _ _ _ ?_)
 refine wpAny_newFunctionEnv_cells S.kind hkind fun env he s1 x=>?_
 subst he
 refine⟨lim.keeps x.toInCall.keep,codeAny_func ?_⟩
 obtain⟨t,ht,hq⟩:=hbody A outer s H vs Q pn hsp
 have I:Inv (rE P w K mg base N qual scope f cdv A outer s H pn) [] (start N vs) H s1:=JC S e0 hp hl r x
 refine wpAny_mono (ht [] s1 (start N vs) H _ I hq) (fun fl s' hs=>?_) fun e s' hs=>hs
 have fin:∀{σ':St}{H':Hp}{v:V}{u:Value},Inv (rE P w K mg base N qual scope f cdv A outer s H pn) [] σ' H' s'->RelV v u->Q v H'->CE outer P w H s Q u s':=
  fun{σ' H' v u}J rv q=>⟨v,H',J.os,J.bare,J.base,J.aA,rv,q⟩
 cases fl with
 |ret u=>
  obtain⟨v,σ',H',J,rv,q⟩:=hs
  exact fin J rv q
 |next=>
  obtain⟨σ',H',J,q⟩:=hs
  exact fin (v:=V.ax) (u:=Value.none) J rfl q
 |brk=>
  obtain⟨_,_,_,q⟩:=hs
  exact False.elim q
 |cont=>
  obtain⟨_,_,_,q⟩:=hs
  exact False.elim q
theorem aE.K4{P:Program}{w:World}{K:PySem.W.Frag}{mg:Str->Option Value}{base:Heap}{x qual:Str}{st:Stmt}{f:Addr}{fd:FuncData}{N ps:List Str}{k:Nat}{sp:List (Addr×Obj)->Sp}(F:aE K x qual st f fd)(S:aI N ps (aB st))(len:∀pn vs H Q E,sp pn vs H Q E->vs.length=ps.length)
  (hbody:∀(cdv:Value)(A:Around)(outer:List Env)(s:Shared)(H:Hp)(vs:List V)(Q:VK)(pn:List (Addr×Obj)),sp pn vs H Q E0->
   ∃t,dS (rE P w K mg base N qual (aB st) f cdv A outer s H pn) (gb st) t/\t {nx:=fun _ H'=>Q .ax H',rt:=Q} (start N vs) H):vg P w K mg base (k+1) f fd ps sp:=by
 obtain⟨oc,od,kV,doc,pm,an,cdv,ct,osl,rfl,lk,hcd⟩:=F.ex
 exact Qi lk hcd S len fun A outer s H vs Q pn hsp=>hbody cdv A outer s H vs Q pn hsp
def Jg(sp:List (Addr×Obj)->Sp)(pn:List (Addr×Obj))(t:TA):TE:=fun σ H Q=>t σ H fun vs H1=>sp pn vs H1 Q E0
theorem Nw{X:Cx}{k:Nat}{f:Addr}{fd:FuncData}{ps:List Str}{sp:List (Addr×Obj)->Sp}{x:Str}{p pos:Pos}{e:Expr}{es:List Expr}{t:TA}(F:vg X.prog X.w X.K X.mg X.base k f fd ps sp)(hr:yk k X.A)(hg:Gl X x)(hm:X.mg x=some (.ref f))(hk:PySem.W.keepIn X.K (.ref f)=true)(hb:Binds X.K fd ps [])
  (ha:PA X (e::es) t) (hdb:(x==("__debug__":Str))=false:=by decide) (he:starEach (e::es) X.env=(false,eval e X.env)::starEach es X.env:=by rfl) (hpl:(backTo pos (starEach es X.env)).any (·.1)=false:=by rfl):
  PE X (.Call (.Name x p) (e::es) [] pos) (Jg sp X.pn t):=by
 intro pins s σ H Q I h
 refine wpAny_Call_Name_kw (jg I hg hm ?_ hdb)
 refine PySem.W.callWith_K (h₀:=X.base) I.ok.mod.iW hk (aJ (ha pos pins s σ H _ I h) fun us s1⟨vs,H1,I1,r,q⟩=>⟨I1.bp,?_⟩) he hpl
 have hl:us.length=ps.length:=by rw[<-r.length];exact F.len _ _ _ _ _ q
 have pk:yV X.pn X.stack s1 H1:=fun pp hp=>by
  obtain⟨h1,h2,h3,h4,h5⟩:=I1.pin pp (List.mem_append_left _ hp)
  refine⟨h1,h2,fun z=>?_,h5⟩
  rcases I1.ok.jj with e|⟨e,fe⟩
  ·rw[e]at z;exact h4 z
  ·rw[e]at z
   unfold cv at z
   rw[List.filterMap_cons,fe]at z
   rcases List.mem_cons.mp z with z|z
   ·exact h3 z
   ·exact h4 z
 have hb2:=hb s1 us I1.bp (by rw[List.append_nil];exact hl)
 rw[List.append_nil]at hb2
 refine wpAny_call (codeAny_mono (F.run X.A X.stack s1 H1 ⟨us,[]⟩ us vs Q X.pn hr I1.tw pk hb2 r q) fun rr s' hq=>?_)
 cases rr with
 |error e=>exact False.elim hq
 |ok fl=>
  cases fl with
  |ret u=>exact I1.after hq
  |next=>exact False.elim hq
  |brk=>exact False.elim hq
  |cont=>exact False.elim hq
end L2
end
section
set_option Elab.async false
set_option linter.all false
set_option maxRecDepth 100000
set_option maxHeartbeats 2000000
namespace Wale
open PySem PySem.Spec PyProof.Rows L2
open Wm
open LsWale (Fault)
variable {P:Program}{w:World}{K:PySem.W.Frag}{mg:Str->Option Value}{base:Heap}{a:Ad}
theorem Io{A:Around}{v:Option Value}(hr:bA 99 A):yk 1 (A.mark v):=⟨by have:=hr.dp;show A.depth+3*1+5<recursionLimit;lia,by have:=hr.un;show A.units+16*1+200<cLine;lia⟩
def KC(K:PySem.W.Frag):List (Addr×Obj)->Sp:=fun pn vs H Q _=>∃(ea:Addr)(oe:Obj)(C d:Addr)(k pl:Int)(us:Array Value),vs=[.ref ea]/\(ea,oe)∈pn/\oe.cls=.ref C/\oe.dict=some d/\oe.data=.fields us/\
 H d=some (dC d [("kind",.int k),("place",.int pl)])/\pw K C/\bu K C "kind"/\bu K C "place"/\∀(H':Hp)(p:Addr),H' p=some (.lst [.int (-k),.int pl])->Q (.ref p) H'
theorem Qm:aI ["fault"] ["fault"] (aB zq):=⟨rfl,rfl,rfl,by decide +kernel,rfl,by decide +kernel,by decide +kernel⟩
theorem Jo(T:Tx P w K mg a):vg P w K mg base 1 a.qm a.rP ["fault"] (KC K):=by
 refine aE.K4 (k:=0) T.refusal.fn Qm (fun pn vs H Q E h=>?_) (fun cdv A outer s H vs Q pn h=>?_)
 ·obtain⟨_,_,_,_,_,_,_,rfl,_⟩:=h;rfl
 obtain⟨ea,oe,C,d,k,pl,us,rfl,hp,hc,hdd,hv,hd,xg,nk,np,q⟩:=h
 refine⟨_,aj (aN (bH (aa (Lg Lb (G3 (pv 0) rfl)) (aa (G3 (pv 0) rfl) ag)))),?_⟩
 exact(eX _ rfl ⟨ea,oe,C,d,_,_,us,rfl,hp,hc,hdd,hv,hd,xg,nk,rfl,eX _ rfl (eX _ rfl ⟨ea,oe,C,d,_,_,us,rfl,hp,hc,hdd,hv,hd,xg,np,rfl,(by show 2<=sizeLine;decide),fun p _=>q _ p aw⟩)⟩)
end Wale
end
section
set_option Elab.async false
set_option linter.all false
set_option maxRecDepth 100000
set_option maxHeartbeats 2000000
namespace Wale
open Wm
open LsWale
def fH(t:Token):Nat:=match t.tok with
 | .word b=>40+b.length
 | .num n=>40+(decimal n).length
 |_=>40
def wt(l:List Token):Nat:=(l.map fH).sum
def Wg(s:St):Nat:=wt s.ts
theorem Ea(t:Token)(r:List Token):wt (t::r)=fH t+wt r:=by unfold wt;rw[List.map_cons,List.sum_cons]
theorem Gc(t:Token):40<=fH t:=by
 unfold fH
 split<;>lia
theorem lG{s:St}{t:Token}{r:List Token}(h:s.ts=t::r):Wg s=fH t+Wg s.next:=by
 unfold Wg St.next
 rw[h,Ea];rfl
theorem cG{s:St}{x:String}(h:s.isWord x=true):Wg s.next+(40+(ascii x).length)<=Wg s:=by
 unfold St.isWord at h
 split at h
 ·rename_i p b r q
  rw[lG q]
  have:b=ascii x:=eq_of_beq h
  unfold fH
  dsimp only
  rw[this];lia
 ·cases h
theorem ki{s:St}{c:Char}(h:s.isSign c=true):Wg s.next+40<=Wg s:=by
 unfold St.isSign at h
 split at h
 ·rename_i p b r q
  rw[lG q]
  have:=Gc ⟨p,.sign b⟩
  lia
 ·cases h
theorem fz{α:Type}{s:St}{x:α}:(wanted s:Except Fault α)≠ .ok x:=by
 unfold wanted
 split<;>exact fun z=>nomatch z
theorem ee{c:Char}{s t:St}(h:eatSign c s=.ok t):Wg t+40<=Wg s:=by
 unfold eatSign at h
 split at h
 ·rename_i q
  cases h
  exact ki q
 ·exact absurd h fz
theorem Bg{c:String}{s t:St}(h:eatWord c s=.ok t):Wg t+(40+(ascii c).length)<=Wg s:=by
 unfold eatWord at h
 split at h
 ·rename_i q
  cases h
  exact cG q
 ·exact absurd h fz
theorem vn{c:Char}{d:Nat}{s t:St}(h:eatOpen c d s=.ok t):Wg t+40<=Wg s/\d<8:=by
 unfold eatOpen at h
 split at h
 ·exact absurd h fz
 ·rename_i q
  split at h
  ·cases h
  ·rename_i q2
   cases h
   exact⟨ki (by simpa using q),by unfold DEEP at q2;lia⟩
theorem w_any{s t:St}{x:Bytes}(h:anyName s=.ok (x,t)):Wg t+(40+x.length)<=Wg s:=by
 unfold anyName at h
 split at h
 ·rename_i p b r q
  split at h
  ·cases h
   rw[lG q]
   unfold fH
   dsimp only
   lia
  ·exact absurd h fz
 ·exact absurd h fz
theorem tP{l:List Bytes}{s t:St}{x:Bytes}(h:oldName l s=.ok (x,t)):Wg t+(40+x.length)<=Wg s:=by
 unfold oldName at h
 obtain⟨y,h1,h2⟩:=aG h
 split at h2
 ·cases h2
 ·cases h2
  exact w_any h1
theorem tu{k m:Nat}{l:List Bytes}{s t:St}{x:Bytes}(h:newName k m s l=.ok (x,t)):Wg t+(40+x.length)<=Wg s:=by
 unfold newName at h
 obtain⟨y,h1,h2⟩:=aG h
 dsimp only at h2
 split at h2
 ·exact absurd (show(Except.error _:Except Fault _)=.ok _ from h2) (fun z=>nomatch z)
 ·split at h2
  ·exact absurd (show(Except.error _:Except Fault _)=.ok _ from h2) (fun z=>nomatch z)
  ·cases (show Except.ok y=.ok (x,t)from h2)
   exact w_any h1
theorem sO{s t:St}{x:Bytes}(h:markName s=.ok (x,t)):Wg t+(40+x.length)<=Wg s:=by
 unfold markName at h
 obtain⟨y,h1,h2⟩:=aG h
 dsimp only at h2
 split at h2
 ·cases (show Except.ok y=.ok (x,t)from h2)
  exact w_any h1
 ·split at h2
  ·exact absurd (show(Except.error _:Except Fault _)=.ok _ from h2) (fun z=>nomatch z)
  ·have e:=Except.ok.inj (show Except.ok (y.1,({y.2 with env:={y.2.env with marks:=y.2.env.marks++[y.1]}}:St))=.ok (x,t)from h2)
   obtain⟨e1,e2⟩:=Prod.mk.inj e
   rw[<-e1,<-e2]
   exact w_any (x:=y.1) (t:=y.2) h1
theorem EN{s t:St}{x:Bytes}(h:holdName s=.ok (x,t)):Wg t+(40+x.length)<=Wg s:=by
 unfold holdName at h
 obtain⟨y,h1,h2⟩:=aG h
 dsimp only at h2
 split at h2
 ·cases (show Except.ok y=.ok (x,t)from h2)
  exact w_any h1
 ·split at h2
  ·exact absurd (show(Except.error _:Except Fault _)=.ok _ from h2) (fun z=>nomatch z)
  ·have e:=Except.ok.inj (show Except.ok (y.1,({y.2 with env:={y.2.env with holders:=y.2.env.holders++[y.1]}}:St))=.ok (x,t)from h2)
   obtain⟨e1,e2⟩:=Prod.mk.inj e
   rw[<-e1,<-e2]
   exact w_any (x:=y.1) (t:=y.2) h1
theorem FT{s t:St}{n:Nat}(h:wideAt s=.ok (n,t)):Wg t+(40+(decimal n).length)<=Wg s:=by
 unfold wideAt at h
 split at h
 ·rename_i p m r q
  split at h
  ·cases h
   rw[lG q]
   unfold fH
   dsimp only
   lia
  ·cases h
 ·exact absurd h fz
def iz:Level->Nat
 | .sumRest x=>(sumText x).length
 | .prodRest x=>(sumText x).length
 |_=>0
def iu:Level->Nat
 | .sumRest _=>0
 | .prodRest _=>0
 |_=>30
theorem yq(y:Bool)(b:Bytes):(bracketed y b).length<=b.length+2:=by
 unfold bracketed
 split
 ·simp only[List.length_cons,List.length_append,List.length_nil];lia
 ·lia
theorem BG(c:UInt8)(p:Nat)(x y:Sum):(sumText (.op c p x y)).length<=(sumText x).length+(sumText y).length+5:=by
 rw[sumText]
 have h1:=yq x.adds (sumText x)
 have h2:=yq y.adds (sumText y)
 have h3:=yq y.isOp (sumText y)
 split
 ·simp only[List.length_cons,List.length_append];lia
 ·simp only[List.length_cons,List.length_append];lia
theorem EO{s:St}{c c':Char}(h:(s.isSign c||s.isSign c')=true):Wg s.next+40<=Wg s:=by
 rcases Bool.or_eq_true_iff.mp h with q|q
 ·exact ki q
 ·exact ki q
theorem hW:∀(f:Nat)(lv:Level)(d:Nat)(s:St)(x:Sum)(t:St),sumAt f lv d s=.ok (x,t)->(sumText x).length+iu lv+Wg t<=Wg s+iz lv
 |0,lv,d,s,x,t,h=>by rw[sumAt]at h;exact absurd h fz
 |f+1,.sum,d,s,x,t,h=>by
  rw[sumAt]at h
  obtain⟨⟨y,u⟩,h1,h2⟩:=aG h
  have i1:=hW f .prod d s y u h1
  have i2:=hW f (.sumRest y) d u x t h2
  simp only[iz,iu]at *
  lia
 |f+1,.prod,d,s,x,t,h=>by
  rw[sumAt]at h
  obtain⟨⟨y,u⟩,h1,h2⟩:=aG h
  have i1:=hW f .fact d s y u h1
  have i2:=hW f (.prodRest y) d u x t h2
  simp only[iz,iu]at *
  lia
 |f+1,.sumRest z,d,s,x,t,h=>by
  rw[sumAt]at h
  split at h
  ·rename_i c
   obtain⟨⟨y,u⟩,h1,h2⟩:=aG h
   have i0:=EO c
   have i1:=hW f .prod d s.next y u h1
   have i2:=hW f (.sumRest _) d u x t h2
   have i3:=BG (if s.isSign '+'=true then 43 else 45) s.place z y
   simp only[iz,iu]at *
   lia
  ·cases h
   simp only[iz,iu]
   lia
 |f+1,.prodRest z,d,s,x,t,h=>by
  rw[sumAt]at h
  split at h
  ·rename_i c
   obtain⟨⟨y,u⟩,h1,h2⟩:=aG h
   have i0:=EO c
   have i1:=hW f .fact d s.next y u h1
   have i2:=hW f (.prodRest _) d u x t h2
   have i3:=BG (if s.isSign '*'=true then 42 else 47) s.place z y
   simp only[iz,iu]at *
   lia
  ·cases h
   simp only[iz,iu]
   lia
 |f+1,.fact,d,s,x,t,h=>by
  rw[sumAt]at h
  split at h
  ·rename_i p n r q
   cases h
   rw[lG q]
   simp only[iz,iu,fH,sumText]
   lia
  ·obtain⟨y,h1,h2⟩:=aG h
   cases h2
   have:=tP h1
   simp only[iz,iu,sumText]
   lia
  ·obtain⟨u,h1,h2⟩:=aG h
   obtain⟨⟨y,v⟩,h3,h4⟩:=aG h2
   obtain⟨z,h5,h6⟩:=aG h4
   cases h6
   have i0:=(vn h1).1
   have i1:=hW f .sum (d+1) u y v h3
   have i2:=ee h5
   simp only[iz,iu]at *
   lia
theorem w_sum{f d:Nat}{s t:St}{x:Sum}(h:sumAt f .sum d s=.ok (x,t)):(sumText x).length+30+Wg t<=Wg s:=hW f .sum d s x t h
theorem Bo{f d:Nat}{s t:St}{r:Reach}(h:reachAt f d s=.ok (r,t)):(reachText r).length+Wg t<=Wg s:=by
 unfold reachAt at h
 split at h
 ·rename_i c
  have i0:=cG c
  have e0:(ascii "to").length=2:=rfl
  split at h
  ·rename_i c2
   cases h
   have i1:=cG c2
   have e1:(ascii "end").length=3:=rfl
   have e2:(reachText (.to_ .row)).length=7:=rfl
   lia
  ·split at h
   ·rename_i c2
    obtain⟨⟨y,u⟩,h1,h2⟩:=aG h
    cases h2
    have i1:=cG c2
    have i2:=w_sum h1
    have e1:(ascii "last").length=4:=rfl
    have e2:(ascii " to last ").length=9:=rfl
    simp only[reachText,List.length_append]
    lia
   ·obtain⟨u,h1,h2⟩:=aG h
    obtain⟨⟨y,v⟩,h3,h4⟩:=aG h2
    cases h4
    have i1:=Bg h1
    have i2:=sO h3
    have e1:(ascii "mark").length=4:=rfl
    have e2:(ascii " to mark ").length=9:=rfl
    simp only[reachText,List.length_append]
    lia
 ·split at h
  ·obtain⟨⟨y,u⟩,h1,h2⟩:=aG h
   cases h2
   have i2:=w_sum h1
   simp only[reachText,List.length_cons]
   lia
  ·cases h
   show 0+_<=_
   lia
end Wale
end
section
set_option Elab.async false
set_option linter.all false
set_option maxRecDepth 100000
set_option maxHeartbeats 2000000
namespace Wale
open Wm
open LsWale
theorem plain_len{y:Bytes}{j:Nat}(h:(PLAINS.findIdx? fun z=>z==y)=some j):PLAINS.getD j []=y:=by
 obtain⟨hl,h1,-⟩:=List.findIdx?_eq_some_iff_getElem.mp h
 rw[List.getD_eq_getElem?_getD,List.getElem?_eq_getElem hl]
 exact eq_of_beq h1
theorem Lm{s t:St}{u:Unit_}(h:unitAt s=.ok (u,t)):(unitText u).length+5+Wg t<=Wg s:=by
 unfold unitAt at h
 split at h
 ·rename_i p b r q
  split at h
  ·rename_i k hk
   cases h
   have e:unitText (.plain k)=b:=plain_len hk
   rw[e,lG q]
   unfold fH
   dsimp only
   lia
  ·split at h
   ·rename_i c
    obtain⟨⟨n,u1⟩,h1,h2⟩:=aG h
    obtain⟨u2,h3,h4⟩:=aG h2
    obtain⟨⟨m,u3⟩,h5,h6⟩:=aG h4
    cases h6
    have i0:Wg s.next+40<=Wg s:=by rw[lG q];have:=Gc ⟨p,.word b⟩;lia
    have i1:=FT h1
    have i2:=ee h3
    have i3:=FT h5
    have e:(unitText (.cable (s.isWord "cr") n m)).length=3+((decimal n).length+((decimal m).length+1)):=by
     simp only[unitText,List.length_append,List.length_cons]
     cases s.isWord "cr"<;>rfl
    rw[e]
    dsimp only at *
    lia
   ·split at h
    ·rename_i c
     obtain⟨⟨n,u1⟩,h1,h2⟩:=aG h
     cases h2
     have i0:=cG c
     have i1:=EN h1
     have e1:(ascii "hold").length=4:=rfl
     have e2:(ascii "hold ").length=5:=rfl
     simp only[unitText,List.length_append]
     lia
    ·obtain⟨⟨n,u1⟩,h1,h2⟩:=aG h
     cases h2
     have i1:=tP h1
     simp only[unitText]
     lia
 ·exact absurd h fz
theorem iF{α β:Type}{r:Except Fault α}{f:α->β}{y:β}(h:r.map f=.ok y):∃x,r=.ok x/\f x=y:=by
 cases r with
 |error e=>cases h
 |ok x=>cases h;exact⟨x,rfl,rfl⟩
theorem KG{s t:St}{g:Except Fault (Lone×St)}{x:Lone}(h:loneAt s=some g)(hg:g=.ok (x,t)):(loneText x).length+5+Wg t<=Wg s:=by
 unfold loneAt at h
 have e1:(ascii "take").length=4:=rfl
 have e2:(ascii "take ").length=5:=rfl
 have e3:(ascii "yarn").length=4:=rfl
 have e4:(ascii "yarn ").length=5:=rfl
 have e5:(ascii "mark").length=4:=rfl
 have e6:(ascii "mark ").length=5:=rfl
 have e7:(ascii "pass").length=4:=rfl
 have e8:(ascii "pass ").length=5:=rfl
 have e9:(ascii "clear").length=5:=rfl
 have e10:(ascii "clear ").length=6:=rfl
 have e11:(ascii "turn").length=4:=rfl
 have e12:(ascii "fasten").length=6:=rfl
 subst hg
 split at h
 ·rename_i c
  have i0:=cG c
  obtain⟨⟨n,u⟩,h1,h2⟩:=iF (Option.some.inj h)
  cases h2
  have i1:=EN h1
  simp only[loneText,List.length_append]
  lia
 split at h
 ·rename_i c
  have i0:=cG c
  obtain⟨⟨n,u⟩,h1,h2⟩:=iF (Option.some.inj h)
  cases h2
  have i1:=tP h1
  simp only[loneText,List.length_append]
  lia
 split at h
 ·rename_i c
  have i0:=cG c
  obtain⟨⟨n,u⟩,h1,h2⟩:=iF (Option.some.inj h)
  cases h2
  have i1:=sO h1
  simp only[loneText,List.length_append]
  lia
 split at h
 ·rename_i c
  have i0:=cG c
  obtain⟨⟨n,u⟩,h1,h2⟩:=iF (Option.some.inj h)
  cases h2
  have i1:=sO h1
  simp only[loneText,List.length_append]
  lia
 split at h
 ·rename_i c
  have i0:=cG c
  obtain⟨⟨n,u⟩,h1,h2⟩:=iF (Option.some.inj h)
  cases h2
  have i1:=sO h1
  simp only[loneText,List.length_append]
  lia
 split at h
 ·rename_i c
  have i0:=cG c
  cases Option.some.inj h
  simp only[loneText]
  lia
 split at h
 ·rename_i c
  have i0:=cG c
  cases Option.some.inj h
  simp only[loneText]
  lia
 ·cases h
theorem K8(rest:Items):(if rest=.nil then([]:Bytes)else ascii ", "++itemsText rest).length<=2+(itemsText rest).length:=by
 split
 ·exact Nat.zero_le _
 ·rw[List.length_append];exact Nat.le_refl _
theorem uo:∀(f d:Nat)(s:St)(l:Items)(t:St),itemsAt f d s=.ok (l,t)->(itemsText l).length+Wg t<=Wg s
 |0,d,s,l,t,h=>by rw[itemsAt]at h;exact absurd h fz
 |f+1,d,s,l,t,h=>by
  rw[itemsAt]at h
  obtain⟨⟨k,u⟩,h1,h2⟩:=aG h
  have key:∀rest:Items,(itemsText (k rest)).length+Wg u<=Wg s+2+(itemsText rest).length/\(itemsText (k .nil)).length+Wg u<=Wg s:=by
   intro rest
   have tl:=K8 rest
   split at h1
   ·rename_i g hg
    obtain⟨⟨x,v⟩,h3,h4⟩:=iF h1
    cases h4
    have i0:=KG hg h3
    constructor
    ·simp only[itemsText,List.length_append]at tl ⊢
     lia
    ·show((loneText x)++[]).length+Wg v<=_
     rw[List.append_nil];lia
   ·split at h1
    ·obtain⟨u1,h3,h4⟩:=aG h1
     obtain⟨⟨i,u2⟩,h5,h6⟩:=aG h4
     obtain⟨u3,h7,h8⟩:=aG h6
     obtain⟨⟨r,u4⟩,h9,h10⟩:=aG h8
     cases h10
     have i0:=(vn h3).1
     have i1:=uo f (d+1) u1 i u2 h5
     have i2:=ee h7
     have i3:=Bo h9
     dsimp only at *
     constructor
     ·simp only[itemsText,List.length_append,List.length_cons]at tl ⊢
      lia
     ·show(40::(itemsText i++41::(reachText r++[]))).length+_<=_
      simp only[List.length_append,List.length_cons,List.length_nil]
      lia
    ·obtain⟨⟨x,u1⟩,h3,h4⟩:=aG h1
     obtain⟨⟨r,u2⟩,h5,h6⟩:=aG h4
     cases h6
     have i0:=Lm h3
     have i3:=Bo h5
     dsimp only at *
     constructor
     ·simp only[itemsText,List.length_append]at tl ⊢
      lia
     ·show(unitText x++(reachText r++[])).length+_<=_
      simp only[List.length_append,List.length_nil]
      lia
  dsimp only at h2
  split at h2
  ·rename_i c
   obtain⟨⟨r,v⟩,h3,h4⟩:=aG h2
   have i0:=ki c
   have i1:=uo f d u.next r v h3
   have i2:=(key r).1
   cases h4
   dsimp only at *
   lia
  ·cases h2
   exact(key .nil).2
theorem fk(d:Nat)(b:Bytes):(line d b).length=2*d+b.length+1:=by
 unfold line indent
 simp only[List.length_append,List.length_replicate,List.length_cons,List.length_nil]
 lia
theorem OT(dd p:Nat)(sd:Option Bool)(it:Items)(r:Stats):(statsText dd (.row p sd it r)).length<=2*dd+7+(itemsText it).length+2+(statsText dd r).length:=by
 have e1:(ascii "row rs ").length=7:=rfl
 have e2:(ascii "row ws ").length=7:=rfl
 have e3:(ascii "row ").length=4:=rfl
 cases sd with
 |none=>simp only[statsText,List.length_append,fk,List.length_cons,List.length_nil];lia
 |some y=>cases y<;>simp only[statsText,List.length_append,fk,List.length_cons,List.length_nil]<;>lia
theorem jc:∀(f d:Nat)(s:St)(l:Stats)(t:St),statsAt f d s=.ok (l,t)->d<=8->∀dd,dd<=d->(statsText dd l).length+Wg t<=Wg s
 |0,d,s,l,t,h,_,_,_=>by rw[statsAt]at h;exact absurd h fz
 |f+1,d,s,l,t,h,h8,dd,hdd=>by
  rw[statsAt]at h
  have e1:(ascii "on ").length=3:=rfl
  have e2:(ascii " round").length=6:=rfl
  have e3:(ascii "on").length=2:=rfl
  have e4:(ascii "row").length=3:=rfl
  have e5:(ascii "repeat ").length=7:=rfl
  have e6:(ascii "until ").length=6:=rfl
  have e7:(ascii " {").length=2:=rfl
  have e8:(ascii "repeat").length=6:=rfl
  have e9:(ascii "until").length=5:=rfl
  have e10:(ascii "work ").length=5:=rfl
  have e11:(ascii "work").length=4:=rfl
  have e12:(ascii "off;").length=4:=rfl
  have e13:(ascii "off").length=3:=rfl
  dsimp only at h
  split at h
  ·rename_i c
   obtain⟨⟨x,u⟩,h1,h2⟩:=aG h
   obtain⟨v,h3,h4⟩:=aG h2
   obtain⟨⟨r,y⟩,h5,h6⟩:=aG h4
   have i0:=cG c
   have i1:=w_sum h1
   have i2:=ee h3
   have i3:=jc f d v r y h5 h8 dd hdd
   cases h6
   have i4:Wg (if u.isWord "round"=true then u.next else u)<=Wg u:=by
    split
    ·rename_i c2;have:=cG c2;lia
    ·exact Nat.le_refl _
   have i5:((if u.isWord "round"=true then ascii " round" else[]):Bytes).length<=6:=by
    split
    ·exact Nat.le_refl _
    ·exact Nat.zero_le _
   dsimp only at *
   simp only[statsText,List.length_append,fk,List.length_cons,List.length_nil]
   lia
  split at h
  ·rename_i c
   obtain⟨⟨x,u⟩,h1,h2⟩:=aG h
   obtain⟨v,h3,h4⟩:=aG h2
   obtain⟨⟨r,y⟩,h5,h6⟩:=aG h4
   have i0:=cG c
   have i1:=uo f d _ x u h1
   have i2:=ee h3
   have i3:=jc f d v r y h5 h8 dd hdd
   cases h6
   have i4:Wg (if(if s.next.isWord "rs"=true then some true else if s.next.isWord "ws"=true then some false else none).isSome=true then s.next.next else s.next)<=Wg s.next:=by
    by_cases c3:s.next.isWord "rs"=true
    ·rw[if_pos c3];have:=cG c3;show Wg s.next.next<=_;lia
    ·rw[if_neg c3]
     by_cases c4:s.next.isWord "ws"=true
     ·rw[if_pos c4];have:=cG c4;show Wg s.next.next<=_;lia
     ·rw[if_neg c4];exact Nat.le_refl _
   have i6:=OT dd s.place (if s.next.isWord "rs"=true then some true else if s.next.isWord "ws"=true then some false else none) x r
   dsimp only at *
   lia
  split at h
  ·rename_i c
   obtain⟨⟨x,u⟩,h1,h2⟩:=aG h
   obtain⟨v,h3,h4⟩:=aG h2
   obtain⟨⟨i,y⟩,h5,h6⟩:=aG h4
   obtain⟨z,h7,h9⟩:=aG h6
   obtain⟨⟨r,y2⟩,h10,h11⟩:=aG h9
   have i0:Wg s.next+40<=Wg s:=by
    rcases Bool.or_eq_true_iff.mp c with q|q
    ·have:=cG q;lia
    ·have:=cG q;lia
   have i1:=w_sum h1
   have i2:=vn h3
   have i3:=jc f (d+1) v i y h5 (by lia) (dd+1) (by lia)
   have i4:=ee h7
   have i5:=jc f d z r y2 h10 h8 dd hdd
   dsimp only at *
   split at h11
   ·cases h11
    simp only[statsText,List.length_append,fk,List.length_cons,List.length_nil]
    lia
   ·cases h11
    simp only[statsText,List.length_append,fk,List.length_cons,List.length_nil]
    lia
  split at h
  ·rename_i c
   obtain⟨⟨x,u⟩,h1,h2⟩:=aG h
   have i0:=cG c
   have i1:=tP h1
   dsimp only at h2
   split at h2
   ·obtain⟨⟨y,v⟩,h3,h4⟩:=aG h2
    obtain⟨z,h5,h6⟩:=aG h4
    obtain⟨⟨r,y2⟩,h7,h9⟩:=aG h6
    have i2:=w_sum h3
    have i3:=ee h5
    have i5:=jc f d z r y2 h7 h8 dd hdd
    cases h9
    dsimp only at *
    simp only[statsText,List.length_append,fk,List.length_cons,List.length_nil]
    lia
   ·obtain⟨z,h5,h6⟩:=aG h2
    obtain⟨⟨r,y2⟩,h7,h9⟩:=aG h6
    have i3:=ee h5
    have i5:=jc f d z r y2 h7 h8 dd hdd
    cases h9
    dsimp only at *
    simp only[statsText,List.length_append,fk,List.length_cons,List.length_nil]
    lia
  split at h
  ·rename_i c
   obtain⟨z,h5,h6⟩:=aG h
   obtain⟨⟨r,y2⟩,h7,h9⟩:=aG h6
   have i0:=cG c
   have i3:=ee h5
   have i5:=jc f d z r y2 h7 h8 dd hdd
   cases h9
   dsimp only at *
   simp only[statsText,List.length_append,fk]
   lia
  ·cases h
   show 0+_<=_
   lia
end Wale
end
section
set_option Elab.async false
set_option linter.all false
set_option maxRecDepth 100000
set_option maxHeartbeats 2000000
namespace Wale
open Wm
open LsWale
theorem CW:∀(l:List Bytes)(x:Bytes),(commas (l++[x])).length<=(commas l).length+2+x.length
 |[],x=>by show x.length<=_;lia
 |[y],x=>by
  show(y++(ascii ", "++x)).length<=y.length+2+x.length
  rw[List.length_append,List.length_append,show(ascii ", ").length=2 from rfl];lia
 |y::z::r,x=>by
  have i:=CW (z::r) x
  show(y++(ascii ", "++commas ((z::r)++[x]))).length<=(y++(ascii ", "++commas (z::r))).length+2+x.length
  simp only[List.length_append]
  lia
theorem xY:∀(f m:Nat)(l:List Bytes)(s:St)(l':List Bytes)(t:St),namesAt f m l s=.ok (l',t)->(commas l').length+Wg t<=Wg s+(commas l).length
 |0,m,l,s,l',t,h=>by rw[namesAt]at h;exact absurd h fz
 |f+1,m,l,s,l',t,h=>by
  rw[namesAt]at h
  obtain⟨⟨x,u⟩,h1,h2⟩:=aG h
  have i0:=tu h1
  have i1:=CW l x
  dsimp only at h2
  split at h2
  ·rename_i c
   have i2:=ki c
   have i3:=xY f m (l++[x]) u.next l' t h2
   lia
  ·cases h2
   lia
theorem PM(x:Bytes)(l:List Bytes):(commas (x::l)).length<=x.length+2+(commas l).length:=by
 cases l with
 |nil=>show x.length<=_;lia
 |cons y r=>
  show(x++(ascii ", "++commas (y::r))).length<=_
  rw[List.length_append,List.length_append,show(ascii ", ").length=2 from rfl];lia
theorem CL:∀(f:Nat)(s:St)(l:List Sum)(t:St),sumsAt f s=.ok (l,t)->(commas (l.map sumText)).length+Wg t<=Wg s
 |0,s,l,t,h=>by rw[sumsAt]at h;exact absurd h fz
 |f+1,s,l,t,h=>by
  rw[sumsAt]at h
  obtain⟨⟨x,u⟩,h1,h2⟩:=aG h
  have i0:=w_sum h1
  dsimp only at h2
  split at h2
  ·rename_i c
   obtain⟨⟨r,v⟩,h3,h4⟩:=aG h2
   have i2:=ki c
   have i3:=CL f u.next r v h3
   have i4:=PM (sumText x) (r.map sumText)
   cases h4
   show(commas (sumText x::r.map sumText)).length+Wg v<=_
   lia
  ·cases h2
   show(sumText x).length+Wg t<=_
   lia
theorem mO:∀(f:Nat)(s:St)(l:List Head)(t:St),headsAt f s=.ok (l,t)->(l.flatMap headText).length+Wg t<=Wg s
 |0,s,l,t,h=>by rw[headsAt]at h;exact absurd h fz
 |f+1,s,l,t,h=>by
  rw[headsAt]at h
  have e1:(ascii "sizes ").length=6:=rfl
  have e2:(ascii "yarns ").length=6:=rfl
  have e3:(ascii "let ").length=4:=rfl
  have e4:(ascii "word ").length=5:=rfl
  have e5:(ascii "block ").length=6:=rfl
  have e6:(ascii " = ").length=3:=rfl
  have e7:(ascii " {").length=2:=rfl
  have fm:∀(x:Head)(r:List Head),((x::r).flatMap headText).length=(headText x).length+(r.flatMap headText).length:=fun x r=>by rw[List.flatMap_cons,List.length_append]
  split at h
  ·rename_i c
   have i0:=cG c
   dsimp only at h
   split at h
   ·exact absurd (show(Except.error _:Except Fault _)=.ok _ from h) (fun z=>nomatch z)
   ·obtain⟨⟨x,u⟩,h1,h2⟩:=aG h
    obtain⟨v,h3,h4⟩:=aG h2
    obtain⟨⟨r,y⟩,h5,h6⟩:=aG h4
    have i1:=xY _ _ _ _ _ _ h1
    have i2:=ee h3
    have i3:=mO f _ r y h5
    have i4:Wg ({v with env:={v.env with sizes:=some x}}:St)=Wg v:=rfl
    cases h6
    rw[fm]
    simp only[headText,fk,List.length_append,List.length_cons,List.length_nil]
    dsimp only at *
    rw[i4]at i3
    have i5:(commas ([]:List Bytes)).length=0:=rfl
    lia
  split at h
  ·rename_i c
   have i0:=cG c
   dsimp only at h
   split at h
   ·exact absurd (show(Except.error _:Except Fault _)=.ok _ from h) (fun z=>nomatch z)
   ·obtain⟨⟨x,u⟩,h1,h2⟩:=aG h
    obtain⟨v,h3,h4⟩:=aG h2
    obtain⟨⟨r,y⟩,h5,h6⟩:=aG h4
    have i1:=xY _ _ _ _ _ _ h1
    have i2:=ee h3
    have i3:=mO f _ r y h5
    have i4:Wg ({v with env:={v.env with yarns:=some x}}:St)=Wg v:=rfl
    cases h6
    rw[fm]
    simp only[headText,fk,List.length_append,List.length_cons,List.length_nil]
    dsimp only at *
    rw[i4]at i3
    have i5:(commas ([]:List Bytes)).length=0:=rfl
    lia
  split at h
  ·rename_i c
   have i0:=cG c
   obtain⟨⟨n,u⟩,h1,h2⟩:=aG h
   obtain⟨v,h3,h4⟩:=aG h2
   obtain⟨⟨x,u2⟩,h5,h6⟩:=aG h4
   obtain⟨v2,h7,h8⟩:=aG h6
   have i1:=tu h1
   have i2:=ee h3
   have i3:=CL _ _ _ _ h5
   have i4:=ee h7
   dsimp only at h8
   split at h8
   ·exact absurd (show(Except.error _:Except Fault _)=.ok _ from h8) (fun z=>nomatch z)
   ·obtain⟨⟨r,y⟩,h9,h10⟩:=aG h8
    have i5:=mO f _ r y h9
    have i6:Wg ({v2 with env:={v2.env with lets:=v2.env.lets++[n]}}:St)=Wg v2:=rfl
    cases h10
    rw[fm]
    simp only[headText,fk,List.length_append,List.length_cons,List.length_nil]
    dsimp only at *
    rw[i6]at i5
    lia
  split at h
  ·rename_i c
   have i0:=cG c
   obtain⟨⟨n,u⟩,h1,h2⟩:=aG h
   obtain⟨v,h3,h4⟩:=aG h2
   obtain⟨⟨x,u2⟩,h5,h6⟩:=aG h4
   obtain⟨v2,h7,h8⟩:=aG h6
   obtain⟨⟨r,y⟩,h9,h10⟩:=aG h8
   have i1:=tu h1
   have i2:=ee h3
   have i3:=uo _ _ _ _ _ h5
   have i4:=ee h7
   have i5:=mO f _ r y h9
   have i6:Wg ({v2 with env:={v2.env with words:=v2.env.words++[n]}}:St)=Wg v2:=rfl
   cases h10
   rw[fm]
   simp only[headText,fk,List.length_append,List.length_cons,List.length_nil]
   dsimp only at *
   rw[i6]at i5
   lia
  split at h
  ·rename_i c
   have i0:=cG c
   obtain⟨⟨n,u⟩,h1,h2⟩:=aG h
   obtain⟨v,h3,h4⟩:=aG h2
   obtain⟨⟨x,u2⟩,h5,h6⟩:=aG h4
   obtain⟨v2,h7,h8⟩:=aG h6
   obtain⟨⟨r,y⟩,h9,h10⟩:=aG h8
   have i1:=tu h1
   have i2:=(vn h3).1
   have i3:=jc _ _ _ _ _ h5 (by decide) 1 (by decide)
   have i4:=ee h7
   have i5:=mO f _ r y h9
   have i6:Wg ({v2 with env:={v2.env with blocks:=v2.env.blocks++[n]}}:St)=Wg v2:=rfl
   cases h10
   rw[fm]
   simp only[headText,fk,List.length_append,List.length_cons,List.length_nil]
   dsimp only at *
   rw[i6]at i5
   lia
  ·cases h
   show 0+_<=_
   lia
theorem MR{n:Nat}(h:n<=1048576):(decimal n).length<=7:=by
 unfold decimal
 rw[List.length_map]
 exact(Nat.length_toDigits_le_iff (by decide) (by decide)).mpr (by lia)
theorem Iu(b:Bytes):fH ⟨0,(oneToken b).1⟩<=40+7*(oneToken b).2:=by
 unfold oneToken
 split
 ·show 40<=_;lia
 ·split
  ·show 40+_<=40+7*_
   lia
  ·split
   ·rename_i hd
    split
    ·rename_i hn
     unfold isNumber at hn
     rw[Bool.and_eq_true,decide_eq_true_eq]at hn
     have h7:=MR hn.2
     rename_i c r _
     have hl:1<=((c::r).takeWhile isDigit).length:=by rw[List.takeWhile_cons,if_pos hd];simp
     show 40+_<=40+7*_
     lia
    ·show 40<=_;lia
   ·split
    ·show 40<=_;lia
    ·show 40<=_;lia
theorem C7:∀(f p:Nat)(b:Bytes),wt (tokensFrom f p b)<=47*b.length+40
 |0,p,b=>by show 0<=_;lia
 |f+1,p,b=>by
  rw[tokensFrom,Ea]
  have h1:=Iu (b.drop (blanks false b))
  have hw:fH ⟨p+blanks false b,(oneToken (b.drop (blanks false b))).1⟩=fH ⟨0,(oneToken (b.drop (blanks false b))).1⟩:=rfl
  rw[hw]
  have hle:(oneToken (b.drop (blanks false b))).2<=(b.drop (blanks false b)).length:=sS _
  have hk:=List.length_drop (i:=blanks false b) (l:=b)
  split
  ·show _+0<=_;lia
  ·show _+0<=_;lia
  ·rename_i q1 q2
   have hp:1<=(oneToken (b.drop (blanks false b))).2:=one_pos (by
    cases q:(oneToken (b.drop (blanks false b))).1 with
    |done=>exact absurd q q1
    |bad k=>exact absurd q (q2 k)
    |_=>rfl)
   have ih:=C7 f (p+blanks false b+(oneToken (b.drop (blanks false b))).2) (b.drop (blanks false b+(oneToken (b.drop (blanks false b))).2))
   rw[List.length_drop]at ih
   lia
theorem Oz{b:Bytes}{p:Pattern}{e:Env}(h:readAll b=.ok (p,e)):(print p).length<=1000000:=by
 unfold readAll at h
 split at h
 ·cases h
 rename_i hm
 unfold MOST at hm
 obtain⟨s,h1,h2⟩:=aG h
 obtain⟨⟨n,u⟩,h3,h4⟩:=aG h2
 obtain⟨t,h5,h6⟩:=aG h4
 obtain⟨⟨hs,u2⟩,h7,h8⟩:=aG h6
 obtain⟨⟨x,u3⟩,h9,h10⟩:=aG h8
 have i1:=Bg h1
 have i2:=w_any h3
 have i3:=ee h5
 have i4:=mO _ _ _ _ h7
 have i5:=jc _ _ _ _ _ h9 (by decide) 0 (Nat.le_refl _)
 have i6:=C7 (b.length+1) 0 b
 have i7:Wg (⟨tokensOf b,.none_⟩:St)=wt (tokensFrom (b.length+1) 0 b):=rfl
 have e1:(ascii "pattern ").length=8:=rfl
 have e2:(ascii "pattern").length=7:=rfl
 dsimp only at h10
 split at h10
 ·cases h10
  unfold print
  simp only[fk,List.length_append,List.length_cons,List.length_nil]
  dsimp only at *
  lia
 ·exact absurd h10 fz
end Wale
end
section
set_option Elab.async false
set_option linter.all false
set_option maxRecDepth 100000
set_option maxHeartbeats 2000000
namespace Wale
open PySem PySem.Spec PyProof.Rows L2
open Wm
open LsWale (Fault)
variable {P:Program}{w:World}{K:PySem.W.Frag}{mg:Str->Option Value}{base:Heap}{a:Ad}
theorem NW{x:Str}{g:TG}{tt:TT}{te:TE}{vs:List Nat}{σ:L2.St}{H1:Hp}{D:Addr}{Qd:Hp->Prop}(Pv:Nat->Hp->Prop)(h0:Pv 0 (upd H1 D (.lst [])))
  (hs:∀i c H,x.cps[i]? =some c->Pv i H->g (.str ⟨#[c]⟩) (wipe σ vs) H fun σ2 H2=>wipe σ2 vs=wipe σ vs/\tt σ2 H2 fun b H3=>
   if b=true then te σ2 H3 fun y H4=>∃acc,H4 D=some (.lst acc)/\acc.length<sizeLine/\Pv (i+1) (upd H4 D (.lst (acc++[y])))else Pv (i+1) H3) (hd:∀H,Pv x.cps.size H->Qd H):
  ∃W:Nat->Nat->Hp->Prop,(∃m,W 0 m (upd H1 D (.lst [])))/\∀i m H,W i m H->
   ((rg x).stop i H/\Qd H)\/((rg x).go i H/\∃Nx:Hp->Prop,(∀H',Nx H'->∃m',m'<m/\W (i+1) m' H')/\∀y H',(rg x).mF i H y H'->g y (wipe σ vs) H' fun σ2 H2=>wipe σ2 vs=wipe σ vs/\tt σ2 H2 fun b H3=>
    if b=true then te σ2 H3 fun y H4=>∃acc,H4 D=some (.lst acc)/\acc.length<sizeLine/\Nx (upd H4 D (.lst (acc++[y])))else Nx H3):=by
 refine⟨fun i m H=>m=x.cps.size-i/\i<=x.cps.size/\Pv i H,⟨x.cps.size,by simp,Nat.zero_le _,h0⟩,?_⟩
 rintro i m H ⟨rfl,hi,p⟩
 by_cases hlt:i<x.cps.size
 ·refine .inr ⟨hlt,Pv (i+1),fun H' p'=>⟨x.cps.size-(i+1),by lia,rfl,hlt,p'⟩,fun v H' y=>?_⟩
  obtain⟨e,c,hc,ev⟩:=y
  subst e
  subst ev
  exact hs i c _ hc p
 ·have e:i=x.cps.size:=by lia
  subst e
  exact .inl ⟨Nat.le_refl _,hd H p⟩
def rq(b:Bytes):List Int:=match LsWale.readAll b with
 | .error f=>[-(f.kind:Int),(f.place:Int)]
 | .ok x=>((LsWale.print x.1).length:Int)::(LsWale.print x.1).map fun c=>(c.toNat:Int)
def uO(K:PySem.W.Frag):Sp:=fun vs H Q _=>∃(t:Addr)(b:Bytes),vs=[.ref t]/\aF K H t (nums b)/\b.length<=20000/\∀(H':Hp)(p:Addr),H' p=some (.lst ((rq b).map V.int))->Q (.ref p) H'
theorem qV:aI ["t","form","fault","sign"] ["t"] (aB uY):=⟨rfl,rfl,rfl,by decide +kernel,rfl,by decide +kernel,by decide +kernel⟩
theorem LW:iX ["t","form","fault","sign"] (aB uY) {kind:=.function,names:=[(".0",.local),("sign",.local),("ord",.globalImplicit)],isGenerator:=false,isCoroutine:=false} [("sign",3)]:=rf (by decide +kernel)
theorem Px(T:Tx P w K mg a):ay P w K mg base aW 100 a.lR a.oH ["t"] (uO K):=by
 refine aE.ok (k:=99) T.print_form.fn qV (fun vs H Q E h=>?_) (fun cdv A outer s H vs Q E hr h=>?_)
 ·obtain⟨_,_,rfl,_⟩:=h;rfl
 obtain⟨t,b,rfl,hS,hl,q⟩:=h
 have sz:sizeLine=16777216:=by decide
 refine⟨_,ai (JT (i:=2) (n:="fault") qV.nd rfl rfl rfl T.eh.1 T.eh.2.2 rfl rfl rfl
   (fun E pn Ec hp=>aj (aY (i:=1) qV.nd rfl (Or.inl rfl) (aQ T.Ce (Mf T) (hr.mono (by first|decide|lia)) aU (aa (aQ T.BK (LP T) hr hp (aa (pv 0) ag)) ag))))
   (fun ea pn=>aj (aN (Nw (Jo T) (Io hr) rfl T.refusal.at_ T.refusal.fn.kp T.refusal.bd (aa (pv 2) ag)))))
  (aj (aN (cY JZ (bH (aa (jo FN (by rfl) T.gB PySem.boot_len (aa (pv 1) ag)) ag))
   (rQ (own:=[("sign",3)]) rfl qV.nd (Ky (pv 1)) LW (fun _ _ _ _ _=>jW (i:=3) qV.nd rfl (Or.inl rfl)) (fun _ _ _ _ _=>qH)
    (fun _ _ _ _ _=>jo Mr (by rfl) T.O4 rfl (aa (pv 3) ag)))))),?_⟩
 refine(eX _ rfl ⟨t,b,rfl,hS,hl,fun k pl hk=>?_,fun x e hx H' v H0 _ md=>?_⟩)
 ·intro C d H' hE hd
  obtain⟨xc,xg,sub,nk,np⟩:=hE
  refine⟨C,d,rfl,rfl,xc,sub,fun ea oe vs pn hp hc hdd hv=>?_⟩
  refine(eX _ rfl ⟨ea,oe,C,d,_,_,vs,rfl,hp,hc,hdd,hv,hd,xg,nk,np,fun H2 p e2=>q H2 p ?_⟩)
  unfold rq
  rw[hk]
  exact e2
 ·have pl:=Oz hx
  refine⟨v,x,H0,rfl,md,by lia,fun H2 s2=>?_⟩
  refine(eX _ rfl (eX _ rfl ⟨(by rw[str_len];lia),(by show 1<=sizeLine;decide),fun l1 hl1=>?_⟩))
  refine(eX _ rfl (eX _ rfl (fun D hD=>?_)))
  refine NW (fun i H'=>aK (upd H2 l1 (.lst [.int ((strOf (LsWale.print x)).length:Nat)])) H'/\H' D=some (.lst (((LsWale.print x).take i).map fun c=>V.int (c.toNat:Int)))) ⟨aO hD,aw⟩ (fun i c H' hi qq=>?_) (fun H' qq=>?_)
  ·obtain⟨sm,hd⟩:=qq
   have hi':((LsWale.print x).map UInt8.toNat)[i]? =some c:=by
    have:((LsWale.print x).map UInt8.toNat).toArray[i]? =some c:=hi
    rwa [List.getElem?_toArray]at this
   rw[List.getElem?_map]at hi'
   obtain⟨y,hy,rfl⟩:=Option.map_eq_some_iff.mp hi'
   have hil:=(List.getElem?_eq_some_iff.mp hy).1
   refine⟨rfl,eX _ rfl (eX _ rfl ⟨rfl,_,hd,?_,?_,?_⟩)⟩
   ·rw[List.length_map,List.length_take];lia
   ·intro b o e
    rw[ak (d7 e hD)]
    exact sm _ _ e
   ·rw[aw,List.take_add_one,hy]
    simp
  ·obtain⟨sm,hd⟩:=qq
   have es:(strOf (LsWale.print x)).cps.size=(LsWale.print x).length:=str_len _
   rw[es,List.take_length]at hd
   refine⟨l1,D,_,eX _ rfl ⟨rfl,sm _ _ aw,hd,?_,fun p hp=>q _ p ?_⟩⟩
   ·rw[List.length_map,List.length_singleton];lia
   ·rw[aw,str_len]
    unfold rq
    rw[hx,List.map_cons,List.map_map]
    rfl
end Wale
end
section
set_option Elab.async false
set_option linter.all false
set_option maxRecDepth 100000
set_option maxHeartbeats 4000000
namespace L2
open PySem PySem.Spec PyProof.Rows
theorem Js{K:PySem.W.Frag}{C:Addr}{nm q:Str}{N:Addr}{bs bm:List Value}{sn sub ab col dd k0 k1 k2 k3 k5}(e:K.lookup C=some (excClassObj nm q C N bs bm true sn sub ab col dd k0 k1 k2 k3 k5 "Exception.__new__"))(h:ie bm=true):eD K C=true:=by
 unfold eD
 rw[e]
 unfold excClassObj
 simp[h]
section
variable {K:PySem.W.Frag}{x qual:Str}{st:Stmt}{f:Addr}{fd:FuncData}
theorem aE.b1{p0:Str}(F:aE K x qual st f fd)(e:∀(kV doc pm:Value)(an:Option Addr)(cdv ct:Value)(u0:Value),bindArgs (PySem.W.fnOf x qual (jn st) (gb st) (aB st) .none kV doc pm an cdv ct) ⟨[u0],[]⟩=pure (([p0]:List Str).zip [u0]):=by intros;rfl):Binds K fd [p0] []:=
 F.binds fun a b c d g h us hl=>match us,hl with|[u0],_=>e a b c d g h u0
theorem aE.b2{p0 p1:Str}(F:aE K x qual st f fd)(e:∀(kV doc pm:Value)(an:Option Addr)(cdv ct:Value)(u0 u1:Value),bindArgs (PySem.W.fnOf x qual (jn st) (gb st) (aB st) .none kV doc pm an cdv ct) ⟨[u0,u1],[]⟩=pure (([p0,p1]:List Str).zip [u0,u1]):=by intros;rfl):Binds K fd [p0,p1] []:=
 F.binds fun a b c d g h us hl=>match us,hl with|[u0,u1],_=>e a b c d g h u0 u1
theorem aE.b3{p0 p1 p2:Str}(F:aE K x qual st f fd)(e:∀(kV doc pm:Value)(an:Option Addr)(cdv ct:Value)(u0 u1 u2:Value),bindArgs (PySem.W.fnOf x qual (jn st) (gb st) (aB st) .none kV doc pm an cdv ct) ⟨[u0,u1,u2],[]⟩=pure (([p0,p1,p2]:List Str).zip [u0,u1,u2]):=by intros;rfl):Binds K fd [p0,p1,p2] []:=
 F.binds fun a b c d g h us hl=>match us,hl with|[u0,u1,u2],_=>e a b c d g h u0 u1 u2
theorem aE.b4{p0 p1 p2 p3:Str}(F:aE K x qual st f fd)(e:∀(kV doc pm:Value)(an:Option Addr)(cdv ct:Value)(u0 u1 u2 u3:Value),bindArgs (PySem.W.fnOf x qual (jn st) (gb st) (aB st) .none kV doc pm an cdv ct) ⟨[u0,u1,u2,u3],[]⟩=pure (([p0,p1,p2,p3]:List Str).zip [u0,u1,u2,u3]):=by intros;rfl):Binds K fd [p0,p1,p2,p3] []:=
 F.binds fun a b c d g h us hl=>match us,hl with|[u0,u1,u2,u3],_=>e a b c d g h u0 u1 u2 u3
theorem aE.b6{p0 p1 p2 p3 p4 p5:Str}(F:aE K x qual st f fd)(e:∀(kV doc pm:Value)(an:Option Addr)(cdv ct:Value)(u0 u1 u2 u3 u4 u5:Value),bindArgs (PySem.W.fnOf x qual (jn st) (gb st) (aB st) .none kV doc pm an cdv ct) ⟨[u0,u1,u2,u3,u4,u5],[]⟩=pure (([p0,p1,p2,p3,p4,p5]:List Str).zip [u0,u1,u2,u3,u4,u5]):=by intros;rfl):Binds K fd [p0,p1,p2,p3,p4,p5] []:=
 F.binds fun a b c d g h us hl=>match us,hl with|[u0,u1,u2,u3,u4,u5],_=>e a b c d g h u0 u1 u2 u3 u4 u5
end
end L2
namespace Wale
open PySem PySem.Spec PyProof.Rows L2
open PySem.W (nsIn findIn keepIn isFn)
section
variable (K:PySem.W.Frag)(x:Str)(c F f:Addr)
abbrev TD(st:Stmt)(f:Addr)(fd:FuncData):Prop:=nsIn K mainGlobals x=some (some (.ref f))/\aE K x x st f fd
abbrev MD(x qual:Str)(st:Stmt)(f:Addr)(fd:FuncData):Prop:=findIn K (.ref c) x=some (some (.ref f))/\isFn K (.ref f)=true/\aE K x qual st f fd
abbrev XK:Prop:=∃nm q N bs bm sn sub ab col dd k0 k1 k2 k3 k5,K.lookup c=some (excClassObj nm q c N bs bm true sn sub ab col dd k0 k1 k2 k3 k5 "Exception.__new__")/\ie bm=true
abbrev RK:Prop:=nsIn K mainGlobals x=some (some (.ref c))/\PySem.W.readsIn K c (.type "type")=true/\PySem.W.specialIn K (.ref c) "__getattribute__"=some (some (.builtin "type.__getattribute__"))/\PySem.W.findCls K (.ref c) (.type "type") "__init__"=some (.val (.ref f))/\XK K c
abbrev EK:Prop:=nsIn K mainGlobals x=some (some (.ref c))/\XK K c/\findIn K (.ref c) "__init__"=some (some (.ref f))/\isFn K (.ref f)=true/\keepIn K (.ref c)=true/\findIn K (.ref c) "__setattr__"=some (some (.builtin "object.__setattr__"))/\findIn K (.ref c) "__getattribute__"=some (some (.builtin "BaseException.__getattribute__"))/\findIn K (.ref c) "__getattr__"=some none/\PySem.W.mroIn K c (.ref F)=some true/\findIn K (.ref c) "kind"=some none/\findIn K (.ref c) "place"=some none
abbrev OK:Prop:=nsIn K mainGlobals x=some (some (.ref c))/\PySem.W.plainGet K c Str.empty=true/\PySem.W.hasDictIn K c=true/\PySem.W.plainOver K c=true/\findIn K (.ref c) "__setattr__"=some (some (.builtin "object.__setattr__"))/\PySem.W.makesIn K c=true/\findIn K (.ref c) "__init__"=some (some (.ref f))/\isFn K (.ref f)=true/\keepIn K (.ref c)=true
abbrev NI(n:Int):Prop:=∃t,nsIn K mainGlobals x=some (some (.int n t))
abbrev NS(s:Str):Prop:=∃t,nsIn K mainGlobals x=some (some (.str s t))
abbrev NT(l:List Str)(t:Addr):Prop:=nsIn K mainGlobals x=some (some (.ref t))/\∃oc vs n sl,K.lookup t=some ⟨.type "tuple",oc,.seq (List.toArray vs) n,sl⟩/\aT (l.map V.str) vs
end
section
variable {K:PySem.W.Frag}{h:Heap}{mg:Str->Option Value}{x:Str}{c F f t:Addr}{fd:FuncData}{st:Stmt}{ps:List Str}(X:K.In h)(G:h.Ns mainGlobals mg)
include X G
theorem td(e:TD K x st f fd)(b:Binds K fd ps []):a9 K mg x st ps f fd:=⟨e.2,b,PySem.W.mg_of X G e.1⟩
theorem xk(e:XK K c):eD K c=true:=by
 obtain⟨_,_,_,_,_,_,_,_,_,_,_,_,_,_,_,l,t⟩:=e
 exact Js l t
theorem rk(e:RK K x c f)(kp:keepIn K (.ref f)=true):mg x=some (.ref c)/\xI K c "__init__" f/\eD K c=true:=⟨PySem.W.mg_of X G e.1,⟨e.2.1,e.2.2.1,e.2.2.2.1,kp⟩,xk X G e.2.2.2.2⟩
theorem ek(e:EK K x c F f):hX K mg x c F f:=by
 obtain⟨a,k,b,d,g,i,j,l,m,n,o⟩:=e
 exact⟨PySem.W.mg_of X G a,⟨xk X G k,b,d,g,i⟩,⟨xk X G k,j,l⟩,m,n,o⟩
theorem ow(e:OK K x c f):OwnCls K mg x c f:=by
 obtain⟨a,k,b,d,g,i,j,l,m⟩:=e
 exact⟨PySem.W.mg_of X G a,⟨k,b,d,g⟩,⟨i,j,l,m⟩⟩
theorem ni{n:Int}(e:NI K x n):dO mg x n:=e.elim fun t z=>⟨t,PySem.W.mg_of X G z⟩
theorem nS{n:Str}(e:NS K x n):eL mg x n:=e.elim fun t z=>⟨t,PySem.W.mg_of X G z⟩
theorem nt{l:List Str}(e:NT K x l t)(hl:l.length<=100):jb K mg x l t:=by
 obtain⟨a,oc,vs,n,sl,k,v⟩:=e
 refine⟨PySem.W.mg_of X G a,fun H=>.inr ⟨_,_,_,k,rfl,rfl,?_,v⟩⟩
 have:=v.length
 rw[List.length_map]at this
 rw[List.size_toArray,<-this]
 exact Nat.le_trans hl (by decide)
end
theorem all_mk{P:Program}{w:World}{K:PySem.W.Frag}{h:Heap}{mg:Str->Option Value}{lR:Addr}{rK qz qt oA kI nc kL mz lM mm qh qy sC qd pb qL pI p8 qJ qN qw pL lQ nJ mG qW qg qS rh rH qx qa sA rT mn lj mN rO qI ro kH oz px m3 rR qk pB qu qm lI lU kl kY lh lD k8 kg k9 lL kS kz lp oR r0 pP nU qP pU kh kT oB oV mJ n0 mq nP oM oE oZ mB:Addr}{r9 qr sj ou lq oI k7 mY lz ma qv qU pH sy pz qZ rB qj qC qc ql qF lT ng nO so pK si pF o6 o5 q0 pS rW mh kM mD rX rn su lV nu o8 nQ pW pA pj oH qE rP nW m7 nj nv m5 m4 nA nL mQ oG nh nE nD oo rp pR oN p9 rC nN o4 nY mU mS my nM o3 nX om o2 oJ:FuncData}{dR cD cF cn da rY lF qA nR nV mC pf cg bL bj:Addr}{j1 oq nT nz jK ux vq sE:Addr}{u0k0 u0k1 u0k2 u0k3 u0k4 u0k5 u0k6 u0v0 u0v1 u0v2 u0v3 u0v4 u0v5 u0v6 u1k0 u1k1 u1k2 u1k3 u1k4 u1k5 u1k6 u1k7 u1k8 u1k9 u1k10 u1k11 u1k12 u1v0 u1v1 u1v2 u1v3 u1v4 u1v5 u1v6 u1v7 u1v8 u1v9 u1v10 u1v11 u1v12:Tok}{u0x0 u0x1 u0x2 u0x3 u0x4 u0x5 u0x6 u1x0 u1x1 u1x2 u1x3 u1x4 u1x5 u1x6 u1x7 u1x8 u1x9 u1x10 u1x11 u1x12:Int}{u0e u1e:Nat}(X:K.In h)(G:h.Ns mainGlobals mg)(hfa:mg "print_form"=some (.ref lR))
  (h0:RK K "Fault" da lh)
  (h1:EK K "ByteFault" rY da lD)
  (h2:EK K "NumberFault" lF da k8)
  (h3:EK K "WantFault" qA da kg)
  (h4:EK K "UntoldFault" nR da k9)
  (h5:EK K "AgainFault" nV da lL)
  (h6:EK K "BoundFault" mC da kS)
  (h7:EK K "SumsFault" pf da kz)
  (h8:OK K "Stat" dR lI)
  (h9:findIn K (.ref dR) "phrase"=some none)
  (h10:findIn K (.ref dR) "body"=some none)
  (h11:OK K "Listed" cD lU)
  (h12:findIn K (.ref cD) "phrases"=some none)
  (h13:OK K "Bracketed" cF kl)
  (h14:findIn K (.ref cF) "listed"=some none)
  (h15:OK K "Chain" cn kY)
  (h16:findIn K (.ref cn) "level"=some none)
  (h17:findIn K (.ref cn) "first"=some none)
  (h18:findIn K (.ref cn) "pairs"=some none)
  (h19:OK K "Names" cg lp)
  (h20:findIn K (.ref cg) "told"=some none)
  (h21:findIn K (.ref cg) "standing"=some none)
  (h22:findIn K (.ref cg) "amounts"=some none)
  (h23:OK K "Token" bL kh)
  (h24:findIn K (.ref bL) "kind"=some none)
  (h25:findIn K (.ref bL) "text"=some none)
  (h26:findIn K (.ref bL) "number"=some none)
  (h27:findIn K (.ref bL) "place"=some none)
  (h28:findIn K (.ref bL) "after"=some none)
  (h29:OK K "Reader" bj kT)
  (h30:findIn K (.ref bj) "source"=some none)
  (h31:findIn K (.ref bj) "ahead"=some none)
  (h32:findIn K (.ref bj) "after"=some none)
  (h33:findIn K (.ref bj) "depth"=some none)
  (h34:findIn K (.ref bj) "names"=some none)
  (h35:TD K "chained" Ah rK r9)
  (h36:TD K "has_level" y8 qz qr)
  (h37:TD K "form_of" ve qt sj)
  (h38:TD K "write_stats" yu oA ou)
  (h39:TD K "write_stat" yo kI lq)
  (h40:TD K "phrase_text" vN nc oI)
  (h41:TD K "part_text" xf kL k7)
  (h42:TD K "listed_text" uz mz mY)
  (h43:TD K "sum_text" y4 lM lz)
  (h44:TD K "operand_text" xV mm ma)
  (h45:TD K "token_at" zO qh qv)
  (h46:TD K "skip_blanks" zM qy qU)
  (h47:TD K "skip_comment" xn sC pH)
  (h48:TD K "word_token" AN qd sy)
  (h49:TD K "digit_word_at" Aa pb pz)
  (h50:TD K "number_token" ze qL qZ)
  (h51:TD K "spelled" sM pI rB)
  (h52:TD K "sign_of" yQ p8 qj)
  (h53:TD K "is_letter" wH qJ qC)
  (h54:TD K "is_digit" wj qN qc)
  (h55:TD K "is_letter_digit_or_underscore" Ac qw ql)
  (h56:TD K "begins_sum" xP pL qF)
  (h57:TD K "read_sum" yS lQ lT)
  (h58:TD K "read_product" wK nJ ng)
  (h59:TD K "read_factor" zP mG nO)
  (h60:TD K "read_pattern" yn qW so)
  (h61:TD K "read_head" yf qg pK)
  (h62:TD K "read_sizes" AG qS si)
  (h63:TD K "read_yarns" wa rh pF)
  (h64:TD K "read_new_names" zK rH o6)
  (h65:TD K "read_new_name" xG qx o5)
  (h66:TD K "read_let" wU qa q0)
  (h67:TD K "read_word" w6 sA pS)
  (h68:TD K "read_block" yB rT rW)
  (h69:TD K "read_braces" wV mn mh)
  (h70:TD K "read_stats" zQ lj kM)
  (h71:TD K "read_stat" xZ mN mD)
  (h72:TD K "read_on" x5 rO rX)
  (h73:TD K "read_row" AX qI rn)
  (h74:TD K "read_work" xU ro su)
  (h75:TD K "read_row_items" yj kH lV)
  (h76:TD K "read_row_item" v9 oz nu)
  (h77:TD K "read_goal" zU px o8)
  (h78:TD K "read_unit" Af m3 nQ)
  (h79:TD K "read_crossing" xB rR pW)
  (h80:TD K "read_crossing_number" xu qk pA)
  (h81:TD K "read_lone" xR pB pj)
  (h82:TD K "print_form" uY lR oH)
  (h83:TD K "read_text" wC qu qE)
  (h84:TD K "refusal" zq qm rP)
  (h85:aE K "__init__" "Stat.__init__" wy lI nW)
  (h86:aE K "__init__" "Listed.__init__" AM lU m7)
  (h87:aE K "__init__" "Bracketed.__init__" AV kl nj)
  (h88:aE K "__init__" "Chain.__init__" yO kY nv)
  (h89:aE K "__init__" "Fault.__init__" Aq lh m5)
  (h90:aE K "__init__" "ByteFault.__init__" zx lD m4)
  (h91:aE K "__init__" "NumberFault.__init__" A3 k8 nA)
  (h92:aE K "__init__" "WantFault.__init__" v8 kg nL)
  (h93:aE K "__init__" "UntoldFault.__init__" A1 k9 mQ)
  (h94:aE K "__init__" "AgainFault.__init__" w8 lL oG)
  (h95:aE K "__init__" "BoundFault.__init__" AQ kS nh)
  (h96:aE K "__init__" "SumsFault.__init__" zj kz nE)
  (h97:aE K "__init__" "Names.__init__" yU lp nD)
  (h98:MD K cg "amount" "Names.amount" xj oR oo)
  (h99:MD K cg "check_new" "Names.check_new" zm r0 rp)
  (h100:MD K cg "check_room" "Names.check_room" wD pP pR)
  (h101:MD K cg "tell" "Names.tell" zc nU oN)
  (h102:MD K cg "check_told" "Names.check_told" AH qP p9)
  (h103:MD K cg "stand" "Names.stand" Am pU rC)
  (h104:aE K "__init__" "Token.__init__" xF kh nN)
  (h105:aE K "__init__" "Reader.__init__" zt kT o4)
  (h106:MD K bj "peek" "Reader.peek" zY oB nY)
  (h107:MD K bj "step" "Reader.step" xJ oV mU)
  (h108:MD K bj "skip" "Reader.skip" zW mJ mS)
  (h109:MD K bj "want" "Reader.want" yM n0 my)
  (h110:MD K bj "want_kind" "Reader.want_kind" w9 mq nM)
  (h111:MD K bj "enter" "Reader.enter" wk nP o3)
  (h112:MD K bj "leave" "Reader.leave" zR oM nX)
  (h113:MD K bj "want_new_name" "Reader.want_new_name" AE oE om)
  (h114:MD K bj "want_told_name" "Reader.want_told_name" wB oZ o2)
  (h115:MD K bj "want_standing_name" "Reader.want_standing_name" Ab mB oJ)
  (h116:NI K "SUM_LEVEL" 1)
  (h117:NI K "PRODUCT_LEVEL" 2)
  (h118:NS K "DEEPER" "  ")
  (h119:NS K "SIZES" "sizes")
  (h120:NS K "YARNS" "yarns")
  (h121:NS K "NUMBERS" "numbers")
  (h122:NS K "WORDS" "words")
  (h123:NS K "BLOCKS" "blocks")
  (h124:NS K "MARKERS" "markers")
  (h125:NS K "HOLDERS" "holders")
  (h126:nsIn K mainGlobals "BOUNDS"=some (some (.ref j1)))
  (h127:K.lookup j1=some ⟨.type "dict",none,.dict #[⟨u0x0,.str "sizes" u0k0,.int 16 u0v0⟩,⟨u0x1,.str "yarns" u0k1,.int 16 u0v1⟩,⟨u0x2,.str "numbers" u0k2,.int 256 u0v2⟩,⟨u0x3,.str "words" u0k3,.int 64 u0v3⟩,⟨u0x4,.str "blocks" u0k4,.int 64 u0v4⟩,⟨u0x5,.str "markers" u0k5,.int 64 u0v5⟩,⟨u0x6,.str "holders" u0k6,.int 16 u0v6⟩] u0e,#[]⟩)
  (h128:u0x0=dw w (.inr "sizes")/\u0x1=dw w (.inr "yarns")/\u0x2=dw w (.inr "numbers")/\u0x3=dw w (.inr "words")/\u0x4=dw w (.inr "blocks")/\u0x5=dw w (.inr "markers")/\u0x6=dw w (.inr "holders"))
  (h129:(j1==sysModules)=false)
  (h130:NS K "END" "end")
  (h131:NS K "NAME" "name")
  (h132:NS K "NUMBER" "number")
  (h133:NS K "FIXED" "fixed")
  (h134:NT K "DIGIT_WORDS" ["k2tog","k3tog","p2tog","m1l","m1r"] oq)
  (h135:NI K "LONGEST_DIGIT_WORD" 5)
  (h136:NT K "PLAIN" ["k","p","ktbl","ptbl","yo","k2tog","k3tog","ssk","sssk","p2tog","ssp","cdd","kfb","pfb","kp","m1l","m1r","sl","slf","pso","even","co","bo"] nT)
  (h137:NT K "OTHER_WORDS" ["pattern","sizes","yarns","let","word","block","on","round","row","rs","ws","repeat","until","work","off","to","end","last","mark","cl","cr","hold","take","yarn","pass","clear","turn","fasten"] nz)
  (h138:nsIn K mainGlobals "SIGNS"=some (some (.ref jK)))
  (h139:K.lookup jK=some ⟨.type "dict",none,.dict #[⟨u1x0,.int 40 u1k0,.str "(" u1v0⟩,⟨u1x1,.int 41 u1k1,.str ")" u1v1⟩,⟨u1x2,.int 42 u1k2,.str "*" u1v2⟩,⟨u1x3,.int 43 u1k3,.str "+" u1v3⟩,⟨u1x4,.int 44 u1k4,.str "," u1v4⟩,⟨u1x5,.int 45 u1k5,.str "-" u1v5⟩,⟨u1x6,.int 47 u1k6,.str "/" u1v6⟩,⟨u1x7,.int 59 u1k7,.str ";" u1v7⟩,⟨u1x8,.int 61 u1k8,.str "=" u1v8⟩,⟨u1x9,.int 91 u1k9,.str "[" u1v9⟩,⟨u1x10,.int 93 u1k10,.str "]" u1v10⟩,⟨u1x11,.int 123 u1k11,.str "{" u1v11⟩,⟨u1x12,.int 125 u1k12,.str "}" u1v12⟩] u1e,#[]⟩)
  (h140:u1x0=dw w (.inl 40)/\u1x1=dw w (.inl 41)/\u1x2=dw w (.inl 42)/\u1x3=dw w (.inl 43)/\u1x4=dw w (.inl 44)/\u1x5=dw w (.inl 45)/\u1x6=dw w (.inl 47)/\u1x7=dw w (.inl 59)/\u1x8=dw w (.inl 61)/\u1x9=dw w (.inl 91)/\u1x10=dw w (.inl 93)/\u1x11=dw w (.inl 123)/\u1x12=dw w (.inl 125))
  (h141:(jK==sysModules)=false)
  (h142:NS K "LETTERS" "abcdefghijklmnopqrstuvwxyz")
  (h143:NS K "DIGITS" "0123456789")
  (h144:NI K "LINE_END" 10)
  (h145:NI K "BLANK" 32)
  (h146:NI K "HASH" 35)
  (h147:NI K "ZERO" 48)
  (h148:NI K "NINE" 57)
  (h149:NI K "UNDERSCORE" 95)
  (h150:NI K "LOWER_A" 97)
  (h151:NI K "LOWER_Z" 122)
  (h152:NI K "FIRST_BYTE" 32)
  (h153:NI K "LAST_BYTE" 126)
  (h154:NI K "LARGEST_NUMBER" 1048576)
  (h155:NT K "HEADS" ["sizes","yarns","let","word","block"] ux)
  (h156:NT K "STATS" ["on","row","repeat","until","work","off"] vq)
  (h157:NT K "LONES" ["take","yarn","mark","pass","clear","turn","fasten"] sE)
  (h158:NI K "LARGEST_CROSSING" 16)
  (h159:NI K "DEEPEST" 8)
  (h160:NI K "LONGEST_TEXT" 16384)
  (h161:PySem.W.specialIn K (.builtin "object.__class__") "__get__"=some (some (.builtin "getset_descriptor.__get__")))
  (h162:PySem.W.takesIn K (.builtin "object.__class__")=some true)
  (h163:js K cF)
  (h164:PySem.W.kitOne K (.type "str") (.ref cF)=some false)
  (h165:PySem.W.kitOne K (.ref cF) (.ref cF)=some true)
  (h166:PySem.W.kitOne K (.ref cF) (.ref cn)=some false)
  (h167:PySem.W.kitOne K (.ref cF) (.ref cD)=some false)
  (h168:js K cn)
  (h169:PySem.W.kitOne K (.type "str") (.ref cn)=some false)
  (h170:PySem.W.kitOne K (.ref cn) (.ref cF)=some false)
  (h171:PySem.W.kitOne K (.ref cn) (.ref cn)=some true)
  (h172:PySem.W.kitOne K (.ref cn) (.ref cD)=some false)
  (h173:js K cD)
  (h174:PySem.W.kitOne K (.type "str") (.ref cD)=some false)
  (h175:PySem.W.kitOne K (.ref cD) (.ref cF)=some false)
  (h176:PySem.W.kitOne K (.ref cD) (.ref cn)=some false)
  (h177:PySem.W.kitOne K (.ref cD) (.ref cD)=some true)
  (h178:PySem.W.nsIn K mainGlobals "len"=some none)
  (h179:PySem.W.nsIn K mainGlobals "min"=some none)
  (h180:PySem.W.nsIn K mainGlobals "isinstance"=some none)
  (h181:PySem.W.nsIn K mainGlobals "ord"=some none)
  (h182:PySem.W.nsIn K mainGlobals "str"=some none)
  :∃fd:FuncData,(∀(s:Shared)(us:List Value),us.length=(["t"]:List Str).length->BindsTo s fd ⟨us,[]⟩ ((["t"]:List Str).zip us))/\∀base:Heap,K.In base->base.Ns mainGlobals mg->ay P w K mg base aW 100 lR fd ["t"] (uO K):=by
 have M_BOUNDS:k6 P w K j1 [(.inr "sizes",.int 16),(.inr "yarns",.int 16),(.inr "numbers",.int 256),(.inr "words",.int 64),(.inr "blocks",.int 64),(.inr "markers",.int 64),(.inr "holders",.int 16)]:=by
  refine⟨fun hh XX=>⟨[(.inr "sizes",.int 16 u0v0),(.inr "yarns",.int 16 u0v1),(.inr "numbers",.int 256 u0v2),(.inr "words",.int 64 u0v3),(.inr "blocks",.int 64 u0v4),(.inr "markers",.int 64 u0v5),(.inr "holders",.int 16 u0v6)],(.cons ⟨rfl,⟨_,rfl⟩⟩ (.cons ⟨rfl,⟨_,rfl⟩⟩ (.cons ⟨rfl,⟨_,rfl⟩⟩ (.cons ⟨rfl,⟨_,rfl⟩⟩ (.cons ⟨rfl,⟨_,rfl⟩⟩ (.cons ⟨rfl,⟨_,rfl⟩⟩ (.cons ⟨rfl,⟨_,rfl⟩⟩ .nil))))))),_,_,_,XX _ _ h127,⟨rfl,rfl,rfl⟩,rfl,?_,(.cons rfl rfl (.cons rfl rfl (.cons rfl rfl (.cons rfl rfl (.cons rfl rfl (.cons rfl rfl (.cons rfl rfl .nil))))))),(show([.inr "sizes",.inr "yarns",.inr "numbers",.inr "words",.inr "blocks",.inr "markers",.inr "holders"]:List Key).Nodup by decide +kernel)⟩,h129⟩
  intro e he
  simp only[List.mem_toArray,List.mem_cons,List.not_mem_nil,or_false]at he
  obtain⟨z0,z1,z2,z3,z4,z5,z6⟩:=h128
  rcases he with rfl|rfl|rfl|rfl|rfl|rfl|rfl
  ·exact⟨.inr "sizes",rfl,z0⟩
  ·exact⟨.inr "yarns",rfl,z1⟩
  ·exact⟨.inr "numbers",rfl,z2⟩
  ·exact⟨.inr "words",rfl,z3⟩
  ·exact⟨.inr "blocks",rfl,z4⟩
  ·exact⟨.inr "markers",rfl,z5⟩
  ·exact⟨.inr "holders",rfl,z6⟩
 have M_SIGNS:k6 P w K jK [(.inl 40,.str "("),(.inl 41,.str ")"),(.inl 42,.str "*"),(.inl 43,.str "+"),(.inl 44,.str ","),(.inl 45,.str "-"),(.inl 47,.str "/"),(.inl 59,.str ";"),(.inl 61,.str "="),(.inl 91,.str "["),(.inl 93,.str "]"),(.inl 123,.str "{"),(.inl 125,.str "}")]:=by
  refine⟨fun hh XX=>⟨[(.inl 40,.str "(" u1v0),(.inl 41,.str ")" u1v1),(.inl 42,.str "*" u1v2),(.inl 43,.str "+" u1v3),(.inl 44,.str "," u1v4),(.inl 45,.str "-" u1v5),(.inl 47,.str "/" u1v6),(.inl 59,.str ";" u1v7),(.inl 61,.str "=" u1v8),(.inl 91,.str "[" u1v9),(.inl 93,.str "]" u1v10),(.inl 123,.str "{" u1v11),(.inl 125,.str "}" u1v12)],(.cons ⟨rfl,⟨_,rfl⟩⟩ (.cons ⟨rfl,⟨_,rfl⟩⟩ (.cons ⟨rfl,⟨_,rfl⟩⟩ (.cons ⟨rfl,⟨_,rfl⟩⟩ (.cons ⟨rfl,⟨_,rfl⟩⟩ (.cons ⟨rfl,⟨_,rfl⟩⟩ (.cons ⟨rfl,⟨_,rfl⟩⟩ (.cons ⟨rfl,⟨_,rfl⟩⟩ (.cons ⟨rfl,⟨_,rfl⟩⟩ (.cons ⟨rfl,⟨_,rfl⟩⟩ (.cons ⟨rfl,⟨_,rfl⟩⟩ (.cons ⟨rfl,⟨_,rfl⟩⟩ (.cons ⟨rfl,⟨_,rfl⟩⟩ .nil))))))))))))),_,_,_,XX _ _ h139,⟨rfl,rfl,rfl⟩,rfl,?_,(.cons rfl rfl (.cons rfl rfl (.cons rfl rfl (.cons rfl rfl (.cons rfl rfl (.cons rfl rfl (.cons rfl rfl (.cons rfl rfl (.cons rfl rfl (.cons rfl rfl (.cons rfl rfl (.cons rfl rfl (.cons rfl rfl .nil))))))))))))),(show([.inl 40,.inl 41,.inl 42,.inl 43,.inl 44,.inl 45,.inl 47,.inl 59,.inl 61,.inl 91,.inl 93,.inl 123,.inl 125]:List Key).Nodup by decide +kernel)⟩,h141⟩
  intro e he
  simp only[List.mem_toArray,List.mem_cons,List.not_mem_nil,or_false]at he
  obtain⟨z0,z1,z2,z3,z4,z5,z6,z7,z8,z9,z10,z11,z12⟩:=h140
  rcases he with rfl|rfl|rfl|rfl|rfl|rfl|rfl|rfl|rfl|rfl|rfl|rfl|rfl
  ·exact⟨.inl 40,rfl,z0⟩
  ·exact⟨.inl 41,rfl,z1⟩
  ·exact⟨.inl 42,rfl,z2⟩
  ·exact⟨.inl 43,rfl,z3⟩
  ·exact⟨.inl 44,rfl,z4⟩
  ·exact⟨.inl 45,rfl,z5⟩
  ·exact⟨.inl 47,rfl,z6⟩
  ·exact⟨.inl 59,rfl,z7⟩
  ·exact⟨.inl 61,rfl,z8⟩
  ·exact⟨.inl 91,rfl,z9⟩
  ·exact⟨.inl 93,rfl,z10⟩
  ·exact⟨.inl 123,rfl,z11⟩
  ·exact⟨.inl 125,rfl,z12⟩
 have T:Tx P w K mg ⟨rK,r9,qz,qr,qt,sj,oA,ou,kI,lq,nc,oI,kL,k7,mz,mY,lM,lz,mm,ma,qh,qv,qy,qU,sC,pH,qd,sy,pb,pz,qL,qZ,pI,rB,p8,qj,qJ,qC,qN,qc,qw,ql,pL,qF,lQ,lT,nJ,ng,mG,nO,qW,so,qg,pK,qS,si,rh,pF,rH,o6,qx,o5,qa,q0,sA,pS,rT,rW,mn,mh,lj,kM,mN,mD,rO,rX,qI,rn,ro,su,kH,lV,oz,nu,px,o8,m3,nQ,rR,pW,qk,pA,pB,pj,lR,oH,qu,qE,qm,rP,lI,nW,lU,m7,kl,nj,kY,nv,lh,m5,lD,m4,k8,nA,kg,nL,k9,mQ,lL,oG,kS,nh,kz,nE,lp,nD,oR,oo,r0,rp,pP,pR,nU,oN,qP,p9,pU,rC,kh,nN,kT,o4,oB,nY,oV,mU,mJ,mS,n0,my,mq,nM,nP,o3,oM,nX,oE,om,oZ,o2,mB,oJ,dR,cD,cF,cn,da,rY,lF,qA,nR,nV,mC,pf,cg,bL,bj,j1,oq,nT,nz,jK,ux,vq,sE⟩:=⟨td X G h35 h35.2.b4,
  td X G h36 h36.2.b2,
  td X G h37 h37.2.b1,
  td X G h38 h38.2.b3,
  td X G h39 h39.2.b3,
  td X G h40 h40.2.b1,
  td X G h41 h41.2.b1,
  td X G h42 h42.2.b1,
  td X G h43 h43.2.b1,
  td X G h44 h44.2.b2,
  td X G h45 h45.2.b2,
  td X G h46 h46.2.b2,
  td X G h47 h47.2.b2,
  td X G h48 h48.2.b2,
  td X G h49 h49.2.b2,
  td X G h50 h50.2.b2,
  td X G h51 h51.2.b1,
  td X G h52 h52.2.b1,
  td X G h53 h53.2.b1,
  td X G h54 h54.2.b1,
  td X G h55 h55.2.b1,
  td X G h56 h56.2.b1,
  td X G h57 h57.2.b1,
  td X G h58 h58.2.b1,
  td X G h59 h59.2.b1,
  td X G h60 h60.2.b1,
  td X G h61 h61.2.b1,
  td X G h62 h62.2.b2,
  td X G h63 h63.2.b2,
  td X G h64 h64.2.b2,
  td X G h65 h65.2.b2,
  td X G h66 h66.2.b1,
  td X G h67 h67.2.b1,
  td X G h68 h68.2.b1,
  td X G h69 h69.2.b1,
  td X G h70 h70.2.b1,
  td X G h71 h71.2.b1,
  td X G h72 h72.2.b1,
  td X G h73 h73.2.b1,
  td X G h74 h74.2.b1,
  td X G h75 h75.2.b1,
  td X G h76 h76.2.b1,
  td X G h77 h77.2.b1,
  td X G h78 h78.2.b1,
  td X G h79 h79.2.b1,
  td X G h80 h80.2.b1,
  td X G h81 h81.2.b1,
  td X G h82 h82.2.b1,
  td X G h83 h83.2.b1,
  td X G h84 h84.2.b1,
  ⟨h85,h85.b3⟩,
  ⟨h86,h86.b2⟩,
  ⟨h87,h87.b2⟩,
  ⟨h88,h88.b3⟩,
  ⟨h89,h89.b3⟩,
  ⟨h90,h90.b2⟩,
  ⟨h91,h91.b2⟩,
  ⟨h92,h92.b2⟩,
  ⟨h93,h93.b2⟩,
  ⟨h94,h94.b2⟩,
  ⟨h95,h95.b2⟩,
  ⟨h96,h96.b2⟩,
  ⟨h97,h97.b1⟩,
  ⟨h98.2.2,h98.2.2.b2,⟨h98.1,h98.2.1,h98.2.2.kp⟩⟩,
  ⟨h99.2.2,h99.2.2.b3,⟨h99.1,h99.2.1,h99.2.2.kp⟩⟩,
  ⟨h100.2.2,h100.2.2.b3,⟨h100.1,h100.2.1,h100.2.2.kp⟩⟩,
  ⟨h101.2.2,h101.2.2.b3,⟨h101.1,h101.2.1,h101.2.2.kp⟩⟩,
  ⟨h102.2.2,h102.2.2.b3,⟨h102.1,h102.2.1,h102.2.2.kp⟩⟩,
  ⟨h103.2.2,h103.2.2.b3,⟨h103.1,h103.2.1,h103.2.2.kp⟩⟩,
  ⟨h104,h104.b6⟩,
  ⟨h105,h105.b2⟩,
  ⟨h106.2.2,h106.2.2.b1,⟨h106.1,h106.2.1,h106.2.2.kp⟩⟩,
  ⟨h107.2.2,h107.2.2.b1,⟨h107.1,h107.2.1,h107.2.2.kp⟩⟩,
  ⟨h108.2.2,h108.2.2.b2,⟨h108.1,h108.2.1,h108.2.2.kp⟩⟩,
  ⟨h109.2.2,h109.2.2.b2,⟨h109.1,h109.2.1,h109.2.2.kp⟩⟩,
  ⟨h110.2.2,h110.2.2.b2,⟨h110.1,h110.2.1,h110.2.2.kp⟩⟩,
  ⟨h111.2.2,h111.2.2.b2,⟨h111.1,h111.2.1,h111.2.2.kp⟩⟩,
  ⟨h112.2.2,h112.2.2.b2,⟨h112.1,h112.2.1,h112.2.2.kp⟩⟩,
  ⟨h113.2.2,h113.2.2.b2,⟨h113.1,h113.2.1,h113.2.2.kp⟩⟩,
  ⟨h114.2.2,h114.2.2.b2,⟨h114.1,h114.2.1,h114.2.2.kp⟩⟩,
  ⟨h115.2.2,h115.2.2.b2,⟨h115.1,h115.2.1,h115.2.2.kp⟩⟩,
  rk X G h0 h89.kp,
  ek X G h1,
  ek X G h2,
  ek X G h3,
  ek X G h4,
  ek X G h5,
  ek X G h6,
  ek X G h7,
  ow X G h8,
  h9,
  h10,
  ow X G h11,
  h12,
  ow X G h13,
  h14,
  ow X G h15,
  h16,
  h17,
  h18,
  ow X G h19,
  h20,
  h21,
  h22,
  ow X G h23,
  h24,
  h25,
  h26,
  h27,
  h28,
  ow X G h29,
  h30,
  h31,
  h32,
  h33,
  h34,
  ni X G h116,
  ni X G h117,
  nS X G h118,
  nS X G h119,
  nS X G h120,
  nS X G h121,
  nS X G h122,
  nS X G h123,
  nS X G h124,
  nS X G h125,
  ⟨PySem.W.mg_of X G h126,M_BOUNDS⟩,
  nS X G h130,
  nS X G h131,
  nS X G h132,
  nS X G h133,
  nt X G h134 (by decide),
  ni X G h135,
  nt X G h136 (by decide),
  nt X G h137 (by decide),
  ⟨PySem.W.mg_of X G h138,M_SIGNS⟩,
  nS X G h142,
  nS X G h143,
  ni X G h144,
  ni X G h145,
  ni X G h146,
  ni X G h147,
  ni X G h148,
  ni X G h149,
  ni X G h150,
  ni X G h151,
  ni X G h152,
  ni X G h153,
  ni X G h154,
  nt X G h155 (by decide),
  nt X G h156 (by decide),
  nt X G h157 (by decide),
  ni X G h158,
  ni X G h159,
  ni X G h160,
  h161,
  h162,
  h163,
  h164,
  h165,
  h166,
  h167,
  h168,
  h169,
  h170,
  h171,
  h172,
  h173,
  h174,
  h175,
  h176,
  h177,
  PySem.W.mg_none_of X G h178,
  PySem.W.mg_none_of X G h179,
  PySem.W.mg_none_of X G h180,
  PySem.W.mg_none_of X G h181,
  PySem.W.mg_none_of X G h182⟩
 obtain⟨oc,od,kV,doc,pm,an,cdv,ct,osl,e,l,c⟩:=h82.2.ex
 refine⟨_,fun s us hu=>match us,hu with|[u0],_=>?_,fun base _ _=>Px T⟩
 show BindsTo s oH _ _
 rw[e]
 exact .of_eq rfl
end Wale
end
section
set_option Elab.async false
set_option linter.all false
set_option maxRecDepth 100000
set_option maxHeartbeats 2000000
namespace Wale
open PySem PySem.Spec PyProof.Rows L2
open LsWale (Fault)
def fT(t:List Int):Bytes:=t.map fun(n:Int)=>UInt8.ofNat n.toNat
theorem PU(t:List Int):(fT t).length=t.length:=by simp[fT]
theorem Ba:∀(t:List Int),NeutralIO.bytes t=true->nums (fT t)=t.map V.int
 |[],_=>rfl
 |n::r,h=>by
  unfold NeutralIO.bytes at h
  rw[List.all_cons,Bool.and_eq_true,Bool.and_eq_true,decide_eq_true_eq,decide_eq_true_eq]at h
  have hr:=Ba r (by unfold NeutralIO.bytes;exact h.2)
  have e:(((UInt8.ofNat n.toNat).toNat:Nat):Int)=n:=by
   rw[UInt8.toNat_ofNat']
   have:=h.1.1;have:=h.1.2
   lia
  unfold nums fT at hr ⊢
  rw[List.map_cons,List.map_cons,List.map_cons,hr,e]
theorem HD(t:List Int)(h:NeutralIO.bytes t=true):WaleNeutral.callOf [[2],t]=some (.print (fT t)):=by
 show(WaleNeutral.text? t>>=fun x=>some (LsWaleCalls.Call.print x))=_
 unfold WaleNeutral.text?
 rw[if_pos h]
 rfl
theorem OI(t:List Int)(h:NeutralIO.bytes t=true):PyWqbabh.print_form t=rq (fT t):=by
 unfold PyWqbabh.print_form WaleNeutral.f
 rw[HD t h]
 have e:LsWaleCalls.answer (.print (fT t))=match LsWale.readAll (fT t)with
   | .error e=>LsWaleCalls.told e
   | .ok p=>⟨((LsWale.print p.1).length:Nat),[],LsWale.print p.1⟩:=by
  show(match LsWale.read (fT t)with
   | .error e=>LsWaleCalls.told e
   | .ok p=>⟨((LsWale.print p).length:Nat),[],LsWale.print p⟩)=_
  unfold LsWale.read
  cases LsWale.readAll (fT t)<;>rfl
 dsimp only
 rw[e]
 unfold rq
 cases LsWale.readAll (fT t)<;>rfl
theorem LG(t:List Int)(h:PySem.W.Codec.inList 0 20000 (PySem.W.Codec.inInt 0 255) t=true):NeutralIO.bytes t=true/\t.length<=20000:=by
 unfold PySem.W.Codec.inList PySem.W.Codec.inLen PySem.W.Codec.inNat at h
 rw[Bool.and_eq_true,Bool.and_eq_true,decide_eq_true_eq]at h
 exact⟨h.2,of_decide_eq_true h.1.2⟩
theorem Mh:∀(K:PySem.W.Frag)(H:Hp)(xs:List V)(a:PySem.W.Codec.denoteAll PySem.Challenge.rw_waletexts_s02_print_form.args),oY H->PySem.W.Codec.withinAll PySem.Challenge.rw_waletexts_s02_print_form.args a=true->PySem.W.Codec.app PySem.Challenge.rw_waletexts_s02_print_form.args PySem.Challenge.rw_waletexts_s02_print_form.asked a=true->ff K H xs (PySem.W.Codec.encAll PySem.Challenge.rw_waletexts_s02_print_form.args a)->
   uO K xs H (fun v H'=>Dw K H' v (PySem.Challenge.rw_waletexts_s02_print_form.ret.enc (PySem.W.Codec.app PySem.Challenge.rw_waletexts_s02_print_form.args PySem.Challenge.rw_waletexts_s02_print_form.f a))) fun _ _ _=>False:=by
 intro K H xs a _ hw _ hx
 obtain⟨t,u⟩:=a
 change List Int at t
 have hw1:PySem.W.Codec.inList 0 20000 (PySem.W.Codec.inInt 0 255) t=true:=by
  have:(PySem.W.Codec.inList 0 20000 (PySem.W.Codec.inInt 0 255) t&&_)=true:=hw
  exact(Bool.and_eq_true_iff.mp this).1
 have hb:=LG t hw1
 have hx':ff K H xs [.list (t.map PySem.W.WData.int)]:=hx
 cases hx' with
 |cons h1 h2=>
  cases h2
  cases h1 with
  |lst hs hd=>
   rename_i ad ys
   have ey:=E3 t ys hd
   refine⟨ad,fT t,rfl,?_,by rw[PU];exact hb.2,fun H' p hp=>?_⟩
   ·rw[Ba t hb.1,<-ey];exact hs
   ·show Dw K H' (.ref p) (.list ((PyWqbabh.print_form t).map PySem.W.WData.int))
    rw[OI t hb.1]
    exact .lst (aF.of hp) (G0 _)
end Wale
end
section
set_option Elab.async false
set_option maxRecDepth 100000
open PySem PySem.W PyProof.Rows
def PySem.W.Fast.tw11313277928189542225:=0
def PySem.W.Fast.tw11752253323392803762:=0
def PySem.W.Fast.tw2427514179868840492:=0
def PySem.W.Fast.tw11154853395395012625:=0
def PySem.W.Fast.tw5263497613490727379:=0
def PySem.W.Fast.tw17441467513499434439:=0
def PySem.W.Fast.tw15248193470225306389:=0
def PySem.W.Fast.tw11016712762772657203:=0
def PySem.W.Fast.tw14516453906880039583:=0
def PySem.W.Fast.tw13692500488473565909:=0
def PySem.W.Fast.tw7828871723074620051:=0
def PySem.W.Fast.tw4121937578999088858:=0
def PySem.W.Fast.tw6585496930451905232:=0
def PySem.W.Fast.tw2857007816780021870:=0
def PySem.W.Fast.tw12936113324264607989:=0
def PySem.W.Fast.tw11481667919154141930:=0
def PySem.W.Fast.tw18331881077777343864:=0
def PySem.W.Fast.tw12856802541070258930:=0
def PySem.W.Fast.tw2021810936275881849:=0
def PySem.W.Fast.tw1776144646730700564:=0
def PySem.W.Fast.tw134147062246058584:=0
def PySem.W.Fast.tw16183731108095345067:=0
def PySem.W.Fast.tw13961255712131476200:=0
def PySem.W.Fast.tw16680433202170097489:=0
def PySem.W.Fast.tw17928144569838496741:=0
def PySem.W.Fast.tw4111594145232592339:=0
def PySem.W.Fast.tw8544338960975382717:=0
def PySem.W.Fast.tw17716718056130270634:=0
def PySem.W.Fast.tw5856947493496405652:=0
def PySem.W.Fast.tw6810453879461391342:=0
def PySem.W.Fast.tw9013977346520212676:=0
def PySem.W.Fast.tw11346484933134806793:=0
def PySem.W.Fast.tw8866591564702207104:=0
def PySem.W.Fast.tw13684821634409216570:=0
def PySem.W.Fast.tw15348082454602879909:=0
def PySem.W.Fast.tw15237659383735505489:=0
def PySem.W.Fast.tw13839567154460205216:=0
def PySem.W.Fast.tw14185430884468755043:=0
def PySem.W.Fast.tw3558160401965852160:=0
def PySem.W.Fast.tw13585412592328581764:=0
def PySem.W.Fast.tw2335589723682847445:=0
def PySem.W.Fast.tw18006685563314191934:=0
def PySem.W.Fast.tw8897808999133127042:=0
def PySem.W.Fast.tw11757664601504144389:=0
def PySem.W.Fast.tw10556631468419416532:=0
def PySem.W.Fast.tw7236925407514079558:=0
def PySem.W.Fast.tw8755062088219177741:=0
def PySem.W.Fast.tw17178579138695965479:=0
def PySem.W.Fast.tw1836377554388085229:=0
def PySem.W.Fast.tw14155063507567286524:=0
def PySem.W.Fast.tw3692429708292414646:=0
def PySem.W.Fast.tw11800208749949454909:=0
def PySem.W.Fast.tw10173617500268544607:=0
def PySem.W.Fast.tw10471510588922922728:=0
def PySem.W.Fast.tw11686152543595485191:=0
def PySem.W.Fast.tw11347565228713759289:=0
def PySem.W.Fast.tw18281847280355455791:=0
def PySem.W.Fast.tw245324150988206203:=0
def PySem.W.Fast.tw1931632816516680067:=0
def PySem.W.Fast.tw585179074488014910:=0
def PySem.W.Fast.tw11255894867222880183:=0
def PySem.W.Fast.tw8969370090562397004:=0
def PySem.W.Fast.tw16992936906881146989:=0
def PySem.W.Fast.tw14257659650294469221:=0
def PySem.W.Fast.tw6570485753954525340:=0
def PySem.W.Fast.tw4610883454479215888:=0
def PySem.W.Fast.tw4787849442207576513:=0
def PySem.W.Fast.tw18357215209221591097:=0
def PySem.W.Fast.tw10398751137830799697:=0
def PySem.W.Fast.tw13028371159180358072:=0
def PySem.W.Fast.tw17352828194517392799:=0
def PySem.W.Fast.tw15839666784005442403:=0
def PySem.W.Fast.tw15858403380592759752:=0
def PySem.W.Fast.tw11923219650900262284:=0
def PySem.W.Fast.tw11716882825346538029:=0
def PySem.W.Fast.tw10872700233588360087:=0
def PySem.W.Fast.tw11102589248211553829:=0
def PySem.W.Fast.tw8870198074822817595:=0
def PySem.W.Fast.tw365571545866880258:=0
def PySem.W.Fast.tw406393227939720646:=0
def PySem.W.Fast.tw10409452050464771815:=0
def PySem.W.Fast.tw8221042346904312238:=0
def PySem.W.Fast.tw4399888419770208921:=0
def PySem.W.Fast.tw4993473802430625027:=0
def PySem.W.Fast.tw16981393580625205494:=0
def PySem.W.Fast.tw11274991381067511107:=0
def PySem.W.Fast.tw13199828565776388194:=0
def PySem.W.Fast.tw12890025309844085747:=0
def PySem.W.Fast.tw16914784289781352158:=0
def PySem.W.Fast.tw9186382731827363577:=0
def PySem.W.Fast.tw123401304204946555:=0
def PySem.W.Fast.tw16815843047940212916:=0
def PySem.W.Fast.tw11616137054021166231:=0
def PySem.W.Fast.tw3140812626047510952:=0
def PySem.W.Fast.tw1342607584307752678:=0
def PySem.W.Fast.tw10897033190240278860:=0
def PySem.W.Fast.tw1438180384003559741:=0
def PySem.W.Fast.tw5665194236241211005:=0
def PySem.W.Fast.tw12065931217611316756:=0
def PySem.W.Fast.tw12608494833566690279:=0
def PySem.W.Fast.tw11691663444434823111:=0
def PySem.W.Fast.tw5838226921347975968:=0
def PySem.W.Fast.tw10147652173219821364:=0
def PySem.W.Fast.tw9242322884142629580:=0
def PySem.W.Fast.tw11350919379211832461:=0
def PySem.W.Fast.tw4053756683017272945:=0
def PySem.W.Fast.tw12646861454676365626:=0
def PySem.W.Fast.tw17470213229544639550:=0
def PySem.W.Fast.tw7978176914796687786:=0
def PySem.W.Fast.tw5227369418125924544:=0
def PySem.W.Fast.tw15467993537519816138:=0
def PySem.W.Fast.tw11827844146831959059:=0
def PySem.W.Fast.tw11238331346447131597:=0
def PySem.W.Fast.tw12145397619667780799:=0
def PySem.W.Fast.tw14301199893284943516:=0
def PySem.W.Fast.tw4879160804330674789:=0
def PySem.W.Fast.tw7778511826991487925:=0
def PySem.W.Fast.tw10901094981912322325:=0
def PySem.W.Fast.tw16736015573258669617:=0
def PySem.W.Fast.tw6662350587443267475:=0
def PySem.W.Fast.tw9397073798609894018:=0
def PySem.W.Fast.tw4663531539758345744:=0
def PySem.W.Fast.tw9906271767305372911:=0
def PySem.W.Fast.tw3020729077790264638:=0
def PySem.W.Fast.tw12622486265394853542:=0
def PySem.W.Fast.tw4579916966561118299:=0
def PySem.W.Fast.tw2427179920703221243:=0
def PySem.W.Fast.tw8041535410027147005:=0
def PySem.W.Fast.tw6969943695842717057:=0
def PySem.W.Fast.tw10047351787778025049:=0
def PySem.W.Fast.tw14905756164161548044:=0
def PySem.W.Fast.tw1662699914997791398:=0
def PySem.W.Fast.tw9381960342541009145:=0
def PySem.W.Fast.tw7748496841204281290:=0
def PySem.W.Fast.tw13150511836237766052:=0
def PySem.W.Fast.tw4813750888642402319:=0
def PySem.W.Fast.tw3585997826069870600:=0
def PySem.W.Fast.tw12110019051803547237:=0
def PySem.W.Fast.tw5800548206236105268:=0
def PySem.W.Fast.tw4745191200017720:=0
def PySem.W.Fast.tw6059720122367253928:=0
def PySem.W.Fast.tw16407497841907624418:=0
def PySem.W.Fast.tw14770825184925141377:=0
def PySem.W.Fast.tw12960015474022199903:=0
def PySem.W.Fast.tw8039057003386207066:=0
def PySem.W.Fast.tw12738326211002357178:=0
def PySem.W.Fast.tw1659152082380353844:=0
def PySem.W.Fast.tw9285822643338840464:=0
def PySem.W.Fast.tw2801437433080350015:=0
def PySem.W.Fast.tw13020525361253834579:=0
def PySem.W.Fast.tw10798952416333915587:=0
def PySem.W.Fast.tw12142829914799223846:=0
def PySem.W.Fast.tw11482866142911753355:=0
def PySem.W.Fast.tw8977970465861465453:=0
def PySem.W.Fast.tw4987220969493023472:=0
def PySem.W.Fast.tw17957470164985198526:=0
def PySem.W.Fast.tw9668047372308036081:=0
def PySem.W.Fast.tw11459033922642834661:=0
def PySem.W.Fast.tw7451470271057650533:=0
def PySem.W.Fast.tw17205027456961889448:=0
def PySem.W.Fast.tw9599183557139572940:=0
def PySem.W.Fast.tw5746257398298173104:=0
def PySem.W.Fast.tw3602538768232416874:=0
def PySem.W.Fast.tw5612874976305628599:=0
def PySem.W.Fast.tw6344611740086507025:=0
def PySem.W.Fast.tw7230085933449178302:=0
def PySem.W.Fast.tw1590165323087998095:=0
def PySem.W.Fast.tw4560513258228678349:=0
def PySem.W.Fast.tw11253380633804325670:=0
def PySem.W.Fast.tw9722014439464825175:=0
def PySem.W.Fast.tw938461807452643877:=0
def PySem.W.Fast.tw9826529074023114899:=0
def PySem.W.Fast.tw12947718673003738772:=0
def PySem.W.Fast.tw3740328426665690543:=0
def PySem.W.Fast.tw11048257511309971783:=0
def PySem.W.Fast.tw7558010118871170780:=0
def PySem.W.Fast.tw2508711580143152436:=0
def PySem.W.Fast.tw5014853908936330200:=0
def PySem.W.Fast.tw7071905936777335335:=0
def PySem.W.Fast.tw16796126981199994673:=0
def PySem.W.Fast.tw12350741934611048283:=0
def PySem.W.Fast.tw10069505923785124342:=0
def PySem.W.Fast.tw13986638958084961133:=0
def PySem.W.Fast.tw18357275289314385206:=0
def PySem.W.Fast.tw16628453891130225988:=0
def PySem.W.Fast.tw15599462013699731748:=0
def PySem.W.Fast.tw1323971898000465689:=0
def PySem.W.Fast.tw12080824646862111737:=0
def PySem.W.Fast.tw8287418253060830813:=0
def PySem.W.Fast.tw481029294729042692:=0
def PySem.W.Fast.tw1891842524693053437:=0
def PySem.W.Fast.tw11749935457838920097:=0
def PySem.W.Fast.tw10698281461958870685:=0
def PySem.W.Fast.tw12267394012687594520:=0
def PySem.W.Fast.tw14193051431770808260:=0
def PySem.W.Fast.tw1906981092777711357:=0
def PySem.W.Fast.tw3524958160323639412:=0
def PySem.W.Fast.tw9094781364224830474:=0
def PySem.W.Fast.tw2239121645524799005:=0
def PySem.W.Fast.tw15705033117363196539:=0
def PySem.W.Fast.tw17217247873498217680:=0
def PySem.W.Fast.tw7381150479042817104:=0
def PySem.W.Fast.tw8123210907357176994:=0
def PySem.W.Fast.tw12227699995691565993:=0
def PySem.W.Fast.tw14850861395000482599:=0
def PySem.W.Fast.tw15937611131296722922:=0
def PySem.W.Fast.tw16184201387214816032:=0
def PySem.W.Fast.tw5920289716072978327:=0
def PySem.W.Fast.tw3558078607958168999:=0
def PySem.W.Fast.tw4485842934252440575:=0
def PySem.W.Fast.tw17041007997794467184:=0
def PySem.W.Fast.tw15058208993157708192:=0
def PySem.W.Fast.tw12294833206771614923:=0
def PySem.W.Fast.tw1910750525449778999:=0
def PySem.W.Fast.tw15406153641899000069:=0
def PySem.W.Fast.tw5020045194888171011:=0
def PySem.W.Fast.tw13671963806850982917:=0
def PySem.W.Fast.tw15075128482198214971:=0
def PySem.W.Fast.tw7337847119350315442:=0
def PySem.W.Fast.tw9947747423363854562:=0
def PySem.W.Fast.tw13822770108864499856:=0
def PySem.W.Fast.tw6309161770282323058:=0
def PySem.W.Fast.tw11155056341105653844:=0
def PySem.W.Fast.tw12938875024514382136:=0
def PySem.W.Fast.tw3954431231092725789:=0
def PySem.W.Fast.tw13176703395895900439:=0
def PySem.W.Fast.tw16629858169355663669:=0
def PySem.W.Fast.tw14863872905985973737:=0
def PySem.W.Fast.tw9956180480274122004:=0
def PySem.W.Fast.tw4492639902839256106:=0
def PySem.W.Fast.tw17566271767687188012:=0
def PySem.W.Fast.tw16789470338504035506:=0
def PySem.W.Fast.tw1407148053852913796:=0
def PySem.W.Fast.tw3869020999263323518:=0
def PySem.W.Fast.tw206629756432522777:=0
def PySem.W.Fast.tw2844465729380539422:=0
def PySem.W.Fast.tw4093437801446923294:=0
def PySem.W.Fast.tw6910814340291044227:=0
def PySem.W.Fast.tw620927632305846078:=0
def PySem.W.Fast.tw16765368145489903940:=0
def PySem.W.Fast.tw11860579274993715452:=0
def PySem.W.Fast.tw16630211130868704825:=0
def PySem.W.Fast.tw3821871151964141314:=0
def PySem.W.Fast.tw7509814671080526686:=0
def PySem.W.Fast.tw3564651420520500903:=0
def PySem.W.Fast.tw9123176741769167782:=0
def PySem.W.Fast.tw12972244990381690166:=0
def PySem.W.Fast.tw5854610597000031770:=0
def PySem.W.Fast.tw14112320426966590880:=0
def PySem.W.Fast.tw14022758915443378866:=0
def PySem.W.Fast.tw15850239588071722556:=0
def PySem.W.Fast.tw11815257632357963805:=0
def PySem.W.Fast.tw2219676869628831953:=0
def PySem.W.Fast.tw9810201921234365675:=0
def PySem.W.Fast.tw7122199099088675439:=0
def PySem.W.Fast.tw8430321462748374560:=0
def PySem.W.Fast.tw16999423790612080570:=0
def PySem.W.Fast.tw8051778166622345813:=0
def PySem.W.Fast.tw2936317085993361441:=0
def PySem.W.Fast.tw16273362660705959032:=0
def PySem.W.Fast.tw10772730322617872995:=0
def PySem.W.Fast.tw1923363943148022688:=0
def PySem.W.Fast.tw7381479184773175995:=0
def PySem.W.Fast.tw9572066059537168709:=0
def PySem.W.Fast.tw5275703174714883530:=0
def PySem.W.Fast.tw426244666059355014:=0
def PySem.W.Fast.tw8466517286550351717:=0
def PySem.W.Fast.tw17465031229715084773:=0
def PySem.W.Fast.tw10939491315821450601:=0
def PySem.W.Fast.tw15278690146079398347:=0
def PySem.W.Fast.tw9354769774379537579:=0
def PySem.W.Fast.tw2415157799801965613:=0
def PySem.W.Fast.tw2966657623665260727:=0
def PySem.W.Fast.tw3762071821389958664:=0
def PySem.W.Fast.tw5580922424543327329:=0
def PySem.W.Fast.tw6948068805040156878:=0
def PySem.W.Fast.tw7258321434589263289:=0
def PySem.W.Fast.tw6542430359341427447:=0
def PySem.W.Fast.tw3766595478325883382:=0
def PySem.W.Fast.tw5412704716130763138:=0
def PySem.W.Fast.tw4754738079836300212:=0
def PySem.W.Fast.tw1292687198277769506:=0
def PySem.W.Fast.tw13362182197986716051:=0
def PySem.W.Fast.tw10492829590089019333:=0
def PySem.W.Fast.tw14940128614051963355:=0
def PySem.W.Fast.tw12893039340060504383:=0
def PySem.W.Fast.tw10742434898705785044:=0
def PySem.W.Fast.tw3490720582944972148:=0
def PySem.W.Fast.tw491551262004650771:=0
def PySem.W.Fast.tw5646625823324686441:=0
def PySem.W.Fast.tw7193480608405594864:=0
def PySem.W.Fast.tw2235149130099289747:=0
def PySem.W.Fast.tw16578258851882353626:=0
def PySem.W.Fast.tw1187569260794356396:=0
def PySem.W.Fast.tw7597772994516413982:=0
def PySem.W.Fast.tw6804349501195826864:=0
def PySem.W.Fast.tw1816870144972833924:=0
def PySem.W.Fast.tw6041845253736623502:=0
def PySem.W.Fast.tw10333499579073731386:=0
set_option maxHeartbeats 0 in
theorem PySem.Challenge.cw_waletexts_s02_print_form_holds : PySem.Challenge.rw_waletexts_s02_print_form.Holds := by
 w_on;k_headS;(case hw=>exact⟨[.list []],by decide +kernel,by decide +kernel⟩)
 k_fillS
 refine L2.HW (r:=PySem.Challenge.rw_waletexts_s02_print_form) (k:=100) (CX:=L2.aW) (ps:=["t"]) (sp:=Wale.uO) (by decide +kernel) rfl rfl ⟨rfl,by decide,by decide⟩ (fun w h Y=>PySem.W.kIn_of Y) ?F ?S (fun _ _ _ _ z=>z)
 case F=>
  intro w mg fa h Y KX G hmg
  have e:=PySem.W.mg_of KX G (n:="print_form") (by k_is)
  cases hmg.symm.trans e
  refine' Wale.all_mk KX G hmg ?_ ?_ ?_ ?_ ?_ ?_ ?_ ?_ ?_ ?_ ?_ ?_ ?_ ?_ ?_ ?_ ?_ ?_ ?_ ?_ ?_ ?_ ?_ ?_ ?_ ?_ ?_ ?_ ?_ ?_ ?_ ?_ ?_ ?_ ?_ ?_ ?_ ?_ ?_ ?_ ?_ ?_ ?_ ?_ ?_ ?_ ?_ ?_ ?_ ?_ ?_ ?_ ?_ ?_ ?_ ?_ ?_ ?_ ?_ ?_ ?_ ?_ ?_ ?_ ?_ ?_ ?_ ?_ ?_ ?_ ?_ ?_ ?_ ?_ ?_ ?_ ?_ ?_ ?_ ?_ ?_ ?_ ?_ ?_ ?_ ?_ ?_ ?_ ?_ ?_ ?_ ?_ ?_ ?_ ?_ ?_ ?_ ?_ ?_ ?_ ?_ ?_ ?_ ?_ ?_ ?_ ?_ ?_ ?_ ?_ ?_ ?_ ?_ ?_ ?_ ?_ ?_ ?_ ?_ ?_ ?_ ?_ ?_ ?_ ?_ ?_ ?_ ?_ ?_ ?_ ?_ ?_ ?_ ?_ ?_ ?_ ?_ ?_ ?_ ?_ ?_ ?_ ?_ ?_ ?_ ?_ ?_ ?_ ?_ ?_ ?_ ?_ ?_ ?_ ?_ ?_ ?_ ?_ ?_ ?_ ?_ ?_ ?_ ?_ ?_ ?_ ?_ ?_ ?_ ?_ ?_ ?_ ?_ ?_ ?_ ?_ ?_ ?_ ?_ ?_ ?_ ?_ ?_
  all_goals repeat' first|refine And.intro ?_ ?_|apply Exists.intro|refine' L2.aE.mk ⟨_,_,_,_,_,_,_,_,_,rfl,?_,?_⟩ ?_|refine Wale.js.mk ?_ ?_|k_is|kit_is|rfl|exact .nil|refine .cons ⟨_,rfl⟩ ?_|fail
 case S=>exact Wale.Mh
end
