import PyProof.Rows.All
import Wide.All
import OpenK.AllK
import Wide.FinOn
import PyProof.EqAt
import PyProof.EqKinds
import PyProof.TupleCall
import KE.BitLaws
import Open.SpecLaws
import KE.OsHead
import KE.OsGo
import LsWale
import PySem.Challenge.RW_waletexts_s01_judge
section
set_option Elab.async false
set_option linter.all false
set_option maxRecDepth 100000
namespace L2
open PySem PySem.Spec PyProof.Rows
abbrev Key:=Sum Int Str
def my:Key->Value->Bool
 | .inl k,v=>Value.isInt k v
 | .inr x,v=>Value.isStrOf x v
def c6(w:World):Key->Int
 | .inl k=>hashInt k
 | .inr x=>hashStr w x
theorem ik:∀{k:Key}{v:Value},my k v=true->(∃i t,k=Sum.inl i/\v=Value.int i t)\/(∃x t,k=Sum.inr x/\v=Value.str x t)
 | .inl i,v,h=>by
  obtain⟨t,e⟩:=Value.isInt_shape (k:=i) (v:=v) h
  exact .inl ⟨i,t,rfl,e⟩
 | .inr x,v,h=>by
  obtain⟨t,e⟩:=Value.isStrOf_shape (x:=x) (v:=v) h
  exact .inr ⟨x,t,rfl,e⟩
theorem HR(i:Int)(t:Tok):my (.inl i) (.int i t)=true:=by simp[my,Value.isInt]
theorem Em(x:Str)(t:Tok):my (.inr x) (.str x t)=true:=by simp[my,Value.isStrOf]
theorem En(a b:Int):decide ((Sum.inl a:Key)=Sum.inl b)=(a==b):=by
 by_cases e:a=b
 ·subst e;simp
 ·have h:¬(Sum.inl a:Key)=Sum.inl b:=fun q=>e (Sum.inl.inj q)
  rw[decide_eq_false h]
  exact(beq_eq_false_iff_ne.mpr e).symm
theorem EB(a b:Str):decide ((Sum.inr a:Key)=Sum.inr b)=decide (a=b):=by
 by_cases e:a=b
 ·subst e;simp
 ·have h:¬(Sum.inr a:Key)=Sum.inr b:=fun q=>e (Sum.inr.inj q)
  rw[decide_eq_false h,decide_eq_false e]
theorem GO(a:Int)(b:Str):decide ((Sum.inl a:Key)=Sum.inr b)=false:=decide_eq_false (fun q=>nomatch q)
theorem D5(a:Str)(b:Int):decide ((Sum.inr a:Key)=Sum.inl b)=false:=decide_eq_false (fun q=>nomatch q)
def dY(prog:Program)(w:World):PySem.KeyKind prog w Key where
 is:=my
 hash:=c6 w
 inj:=fun v a b ha hb=>by
  rcases ik ha with ⟨i,t,rfl,rfl⟩|⟨x,t,rfl,rfl⟩
  ·rcases ik hb with ⟨j,u,rfl,e⟩|⟨y,u,rfl,e⟩
   ·injection e with e1 _;rw[e1]
   ·exact nomatch e
  ·rcases ik hb with ⟨j,u,rfl,e⟩|⟨y,u,rfl,e⟩
   ·exact nomatch e
   ·injection e with e1 _;rw[e1]
 byValue:=fun k v h=>by
  rcases ik h with ⟨i,t,rfl,rfl⟩|⟨x,t,rfl,rfl⟩<;>rfl
 pyHash:=fun hv h=>by
  rcases ik hv with ⟨i,t,rfl,rfl⟩|⟨x,t,rfl,rfl⟩
  ·exact wpAny_pyHash_int h
  ·exact wpAny_pyHash_str h
 eqBool:=fun hu hv h=>by
  rcases ik hu with ⟨i,t,rfl,rfl⟩|⟨x,t,rfl,rfl⟩
  ·rcases ik hv with ⟨j,u,rfl,rfl⟩|⟨y,u,rfl,rfl⟩
   ·rw[En]at h;exact wpAny_eqBool_int h
   ·rw[GO]at h;exact SeqAt.EqAt.int_str i t y u _ _ _ _ h
  ·rcases ik hv with ⟨j,u,rfl,rfl⟩|⟨y,u,rfl,rfl⟩
   ·rw[D5]at h;exact SeqAt.EqAt.str_int x t j u _ _ _ _ h
   ·rw[EB]at h;exact wpAny_eqBool_str h
 «strs»:=fun k x t v h=>by
  rcases ik h with ⟨i,u,rfl,e⟩|⟨y,u,rfl,e⟩
  ·exact nomatch e
  ·injection e with e1 _
   subst e1
   cases v<;>rfl
theorem LO(prog:Program)(w:World)(i:Int)(t:Tok):(dY prog w).is (.inl i) (.int i t)=true:=HR i t
theorem Jp(prog:Program)(w:World)(x:Str)(t:Tok):(dY prog w).is (.inr x) (.str x t)=true:=Em x t
end L2
namespace L2
open PySem PySem.Spec PyProof.Rows
inductive V where
 |aw|bl (b:Bool)|int (i:Int)|str (x:Str)|dZ (b:Array UInt8)|jR (b:UInt64)|ref (a:Addr)|ty (n:String)
 deriving DecidableEq
def RelV:V->Value->Prop
 | .aw,u=>u=Value.none
 | .bl b,u=>u=Value.bool b
 | .int i,u=>∃t,u=Value.int i t
 | .str x,u=>∃t,u=Value.str x t
 | .dZ b,u=>∃t,u=Value.bytes b t
 | .jR b,u=>∃t,u=Value.float b t
 | .ref a,u=>u=Value.ref a
 | .ty n,u=>u=Value.type n
abbrev aF:List V->List Value->Prop:=Paired RelV
theorem aF.length{xs:List V}{us:List Value}(r:aF xs us):xs.length=us.length:=Paired.length r
theorem aF.get:∀{xs:List V}{us:List Value}{i:Nat}{x:V},aF xs us->xs[i]? =some x->∃u,us[i]? =some u/\RelV x u
 |_,_,_,_,.nil,e=>by simp at e
 |_,_,0,_,.cons r _,e=>by simp at e;subst e;exact⟨_,rfl,r⟩
 |_,_,i+1,x,.cons _ t,e=>by
  obtain⟨u,h1,h2⟩:=aF.get (i:=i) (x:=x) t (by simpa using e)
  exact⟨u,by simpa using h1,h2⟩
theorem aF.set{x:V}{u:Value}(r:RelV x u):∀{xs:List V}{us:List Value}(i:Nat),aF xs us->aF (xs.set i x) (us.set i u)
 |_,_,_,.nil=>.nil
 |_,_,0,.cons _ t=>.cons r t
 |_,_,i+1,.cons q t=>.cons q (aF.set r i t)
theorem aF.append:∀{xs ys:List V}{us ws:List Value},aF xs us->aF ys ws->aF (xs++ys) (us++ws)
 |_,_,_,_,.nil,s=>s
 |_,_,_,_,.cons r t,s=>.cons r (aF.append t s)
theorem aF.take:∀{xs:List V}{us:List Value}(n:Nat),aF xs us->aF (xs.take n) (us.take n)
 |_,_,0,_=>.nil
 |_,_,_+1,.nil=>.nil
 |_,_,n+1,.cons r t=>.cons r (aF.take n t)
theorem aF.drop:∀{xs:List V}{us:List Value}(n:Nat),aF xs us->aF (xs.drop n) (us.drop n)
 |_,_,0,r=>r
 |_,_,_+1,.nil=>.nil
 |_,_,n+1,.cons _ t=>aF.drop n t
theorem aF.none_of:∀{xs:List V}{us:List Value}{i:Nat},aF xs us->xs[i]? =none->us[i]? =none:=fun{xs us i}r e=>by
 have h1:=r.length
 have h2:xs.length<=i:=List.getElem?_eq_none_iff.mp e
 exact List.getElem?_eq_none_iff.mpr (by omega)
def cW:Option V->Option Value->Prop
 |some v,some u=>RelV v u
 |none,none=>True
 |_,_=>False
def KV{κ:Type}:List (κ×V)->List (κ×Value)->Prop:=Paired fun(p:κ×V)(q:κ×Value)=>p.1=q.1/\RelV p.2 q.2
def kV:Key->V
 | .inl i=>.int i
 | .inr x=>.str x
inductive HO where
 |lst (xs:List V)
 |tup (xs:List V)
 |dK (kvs:List (Key×V))|dT (kvs:List (List Key×V))
 |set (S:Int->Bool) (n:Nat)
 |ins (C dx:Addr) (fs:List (Str×V))
 |own (x:Addr)
 |xd (fs:List (Str×V))
 |met (f x:Addr)
 |uX (lo hi:Int)
 |cT (o:Obj) (u:HO)
 |kl (ps:Array Value)
 |ext (φ:Heap->Prop)
abbrev Hp:=Addr->Option HO
def upd(H:Hp)(a:Addr)(o:HO):Hp:=fun b=>if b=a then some o else H b
theorem az{H:Hp}{a:Addr}{o:HO}:upd H a o a=some o:=by unfold upd;rw[if_pos rfl]
theorem ao{H:Hp}{a b:Addr}{o:HO}(h:b≠a):upd H a o b=H b:=by unfold upd;rw[if_neg h]
theorem bI{H:Hp}{a b:Addr}{o u:HO}(h:H a=some o)(h':H b=some u)(d:o≠u):a≠b:=by
 intro e;subst e;rw[h]at h';exact d (Option.some.inj h')
theorem eS{H:Hp}{a b:Addr}{o:HO}(h:H a=some o)(h':H b=none):a≠b:=by
 intro e;subst e;rw[h]at h';cases h'
section
variable (P:Program)(w:World)
def cf(H:Hp)(h:Heap)(a:Addr):HO->Prop
 | .lst xs=>xs.length<=sizeLine/\∃(its:List Value)(n:Nat),aF xs its/\h.get? a=some {cls:=.type "list",data:=.seq its.toArray n}
 | .tup xs=>xs.length<=sizeLine/\∃its:List Value,aF xs its/\IsTup h a its.toArray
 | .dK kvs=>kvs.length<=sizeLine/\(a==sysModules)=false/\∃vs,KV kvs vs/\h.DictOf (dY P w) a vs
 | .dT kvs=>kvs.length<=sizeLine/\(a==sysModules)=false/\∃xs:List (List Key×Addr×Value),
   Paired (fun(p:List Key×V)(q:List Key×Addr×Value)=>p.1=q.1/\H q.2.1=some (.tup (p.1.map kV))/\RelV p.2 q.2.2) kvs xs/\
   ∃o es ep,h.get? a=some o/\o.ExactDict/\o.data=.dict es ep/\es.toList=xs.map (entryOfKey (tupleKind (dY P w)))/\(xs.map (·.1)).Nodup
 | .set S n=>h.SetOf (intKind P w) a S n
 | .ins C dx fs=>H dx=some (.own a)/\fs.length<=1000/\dx≠a/\h.get? a=some (PySem.W.instObj C dx)/\
   ∃mA,h.Ns1 dx mA/\(∀f,cW (fs.lookup f) (mA f))/\PySem.Within mA (fs.map (·.1))
 | .own _=>∃o,h.get? a=some o
 | .xd fs=>∃mA,h.Ns1 a mA/\∀f,cW (fs.lookup f) (mA f)
 | .uX lo hi=>∃t u v,h.get? a=some {cls:=.type "range",data:=.fields #[.int lo t,.int hi u,.int 1 v]}
 | .cT o u=>h.get? a=some o/\cf H h a u
 | .kl ps=>h.get? a=some {cls:=.none,data:=.fields ps}
 | .met f x=>h.get? a=some (PySem.W.methodObj (.ref f) (.ref x))
 | .ext φ=>φ h/\(∃o,h.get? a=some o)/\∀h1 h2:Heap,φ h1->(∀o,h1.get? a=some o->h2.get? a=some o)->φ h2
def bz(H:Hp)(h:Heap):Prop:=∀a o,H a=some o->cf P w H h a o
end
section
variable {P:Program}{w:World}{H H':Hp}{h h':Heap}{a:Addr}{o:HO}
theorem cf.lt(x:cf P w H h a o):a<h.objs.size:=by
 cases o with
 |lst xs=>obtain⟨_,_,_,_,e⟩:=x;exact Heap.lt_size e
 |tup xs=>obtain⟨_,_,_,p⟩:=x;exact p.lt
 |dK kvs=>obtain⟨_,_,_,_,o,_,_,e,_⟩:=x;exact Heap.lt_size e
 |dT kvs=>obtain⟨_,_,_,_,o,_,_,e,_⟩:=x;exact Heap.lt_size e
 |set S n=>obtain⟨o,_,_,_,e,_⟩:=x;exact Heap.lt_size e
 |ins C dx fs=>obtain⟨_,_,_,e,_⟩:=x;exact Heap.lt_size e
 |own y=>obtain⟨_,e⟩:=x;exact Heap.lt_size e
 |xd fs=>obtain⟨_,⟨_,_,_,e,_⟩,_⟩:=x;exact Heap.lt_size e
 |uX lo hi=>obtain⟨_,_,_,e⟩:=x;exact Heap.lt_size e
 |cT ob u=>obtain⟨e,_⟩:=x;exact Heap.lt_size e
 |kl ps=>exact Heap.lt_size (show h.get? a=some _ from x)
 |met f y=>exact Heap.lt_size (show h.get? a=some _ from x)
 |ext φ=>obtain⟨_,⟨_,e⟩,_⟩:=x;exact Heap.lt_size e
theorem Paired.xA{α β:Type}{F G:α->β->Prop}:∀{l₁:List α}{l₂:List β},Paired F l₁ l₂->(∀a b,F a b->G a b)->Paired G l₁ l₂
 |_,_,.nil,_=>.nil
 |_,_,.cons r t,f=>.cons (f _ _ r) (Paired.xA t f)
theorem cf.ie(x:cf P w H h a o)(k:∀b u,(b=a\/H b=some (.own a))->h.get? b=some u->h'.get? b=some u)
  (ho:∀b,H b=some (.own a)->H' b=some (.own a)) (ht:∀b xs,H b=some (.tup xs)->H' b=some (.tup xs)):cf P w H' h' a o:=by
 induction o with
 |lst xs=>obtain⟨z,its,n,r,e⟩:=x;exact⟨z,its,n,r,k _ _ (.inl rfl) e⟩
 |tup xs=>obtain⟨z,its,r,ob,e,c⟩:=x;exact⟨z,its,r,ob,k _ _ (.inl rfl) e,c⟩
 |dK kvs=>obtain⟨z,y,vs,r,ob,es,ep,e,c⟩:=x;exact⟨z,y,vs,r,ob,es,ep,k _ _ (.inl rfl) e,c⟩
 |dT kvs=>
  obtain⟨z,y,xs,r,ob,es,ep,e,c⟩:=x
  exact⟨z,y,xs,Paired.xA r fun p q z=>⟨z.1,ht _ _ z.2.1,z.2.2⟩,ob,es,ep,k _ _ (.inl rfl) e,c⟩
 |set S n=>obtain⟨ob,es,ep,t,e,c⟩:=x;exact⟨ob,es,ep,t,k _ _ (.inl rfl) e,c⟩
 |ins C dx fs=>
  obtain⟨d,z,ne,e,mA,⟨od,es,ep,e2,c⟩,r⟩:=x
  exact⟨ho _ d,z,ne,k _ _ (.inl rfl) e,mA,⟨od,es,ep,k _ _ (.inr d) e2,c⟩,r⟩
 |own y=>obtain⟨ob,e⟩:=x;exact⟨ob,k _ _ (.inl rfl) e⟩
 |xd fs=>obtain⟨mA,⟨od,es,ep,e,c⟩,r⟩:=x;exact⟨mA,⟨od,es,ep,k _ _ (.inl rfl) e,c⟩,r⟩
 |uX lo hi=>obtain⟨t,u,v,e⟩:=x;exact⟨t,u,v,k _ _ (.inl rfl) e⟩
 |cT ob u ih=>obtain⟨e,q⟩:=x;exact⟨k _ _ (.inl rfl) e,ih q⟩
 |kl ps=>
  have e:h.get? a=some {cls:=.none,data:=.fields ps}:=x
  show h'.get? a=some {cls:=.none,data:=.fields ps}
  exact k a _ (.inl rfl) e
 |met f y=>
  have e:h.get? a=some (PySem.W.methodObj (.ref f) (.ref y)):=x
  show h'.get? a=some (PySem.W.methodObj (.ref f) (.ref y))
  exact k a _ (.inl rfl) e
 |ext φ=>obtain⟨p,⟨o,e⟩,st⟩:=x;exact⟨st _ _ p fun o q=>k _ _ (.inl rfl) q,⟨o,k _ _ (.inl rfl) e⟩,st⟩
theorem bz.lt(x:bz P w H h)(e:H a=some o):a<h.objs.size:=(x a o e).lt
theorem bz.fresh(x:bz P w H h)(e:h.objs.size<=a):H a=none:=by
 cases q:H a with
 |none=>rfl
 |some u=>exact absurd (Nat.lt_of_lt_of_le (x.lt q) e) (Nat.lt_irrefl _)
theorem bz.kept(x:bz P w H h)(k:∀b u,h.get? b=some u->h'.get? b=some u):bz P w H h':=fun a o e=>
 (x a o e).ie (fun b u _ q=>k b u q) (fun _ q=>q) fun _ _ q=>q
theorem bz.laid(x:bz P w H h)(k:∀b u,h.get? b=some u->h'.get? b=some u)(hp:h.objs.size<=a)(new:cf P w (upd H a o) h' a o):bz P w (upd H a o) h':=fun b u e=>by
 have hn:=x.fresh hp
 by_cases hb:b=a
 ·subst hb;rw[az]at e;cases e;exact new
 ·rw[ao hb]at e
  exact(x b u e).ie (fun c v _ q=>k c v q) (fun c q=>by rw[ao (eS q hn)];exact q) fun c xs q=>by rw[ao (eS q hn)];exact q
end
def Rd(H:Hp)(a:Addr)(u:HO):Prop:=H a=some u\/∃o,H a=some (.cT o u)
theorem Rd.of{H:Hp}{a:Addr}{u:HO}(h:H a=some u):Rd H a u:=.inl h
theorem Rd.ok{P:Program}{w:World}{H:Hp}{h:Heap}{a:Addr}{u:HO}(r:Rd H a u)(x:bz P w H h):cf P w H h a u:=by
 rcases r with r|⟨o,r⟩
 ·exact x a u r
 ·obtain⟨_,q⟩:=x a _ r
  exact q
def oP:Option HO->Prop
 |some (.lst _)=>True
 |some (.dK _)=>True
 |some (.dT _)=>True
 |some (.set _ _)=>True
 |some (.ins _ _ _)=>True
 |some (.ext _)=>True
 |_=>False
section
variable {P:Program}{w:World}{H:Hp}{h h':Heap}{x e:Addr}{o':HO}
theorem bz.write(ok:bz P w H h)(mu:oP (H x))(he:e=x\/H e=some (.own x))(k:∀b u,b≠e->h.get? b=some u->h'.get? b=some u)(heo:∃u,h'.get? e=some u)
  (new:cf P w (upd H x o') h' x o'):bz P w (upd H x o') h':=fun b u q=>by
 have nown:∀c y,H c=some (.own y)->c≠x:=fun c y r z=>by subst z;rw[r]at mu;exact mu
 have ntup:∀c xs,H c=some (.tup xs)->c≠x:=fun c xs r z=>by subst z;rw[r]at mu;exact mu
 by_cases hb:b=x
 ·subst hb;rw[az]at q;cases q;exact new
 ·rw[ao hb]at q
  by_cases hbe:b=e
  ·have q':H b=some (.own x):=by
    rcases he with z|z
    ·exact absurd (hbe.trans z) hb
    ·rw[hbe];exact z
   rw[q]at q';cases q'
   obtain⟨v,hv⟩:=heo
   exact⟨v,by rw[hbe];exact hv⟩
  ·refine(ok b u q).ie (fun c v hc r=>k c v ?_ r) (fun c r=>by rw[ao (nown c b r)];exact r) fun c xs r=>by rw[ao (ntup c xs r)];exact r
   rcases hc with rfl|hc
   ·exact hbe
   ·rintro rfl
    rcases he with z|z
    ·exact nown c b hc z
    ·rw[hc]at z;cases z;exact hb rfl
end
structure Un(fs ex:List Addr)(H H':Hp)(h h':Heap):Prop where
 keep:∀b o,h.get? b=some o->H b=none->b∉fs->b∉ex->h'.get? b=some o
 slot:∀b o,h.get? b=some o->H b=none->b∈fs->b∉ex->∃sl,h'.get? b=some {o with slots:=sl}
 free:∀b o,h.get? b=some o->H b=none->b∉ex->H' b=none
 there:∀b o,h.get? b=some o->b∉ex->∃o',h'.get? b=some o'
 eF:∀b xs,H b=some (.tup xs)->H' b=some (.tup xs)
 d7:∀b o u,H b=some (.cT o u)->H' b=some (.cT o u)
 eI:∀b ps,H b=some (.kl ps)->∃more,H' b=some (.kl (ps++more))
section
variable {fs fs' ex ex':List Addr}{H H1 H2:Hp}{h h1 h2 h':Heap}{a x e:Addr}{o:HO}
theorem Un.any(u:Un fs ex H H1 h h1){b:Addr}{ob:Obj}(q:h.get? b=some ob)(n:H b=none)(hx:b∉ex):∃sl,h1.get? b=some {ob with slots:=sl}:=by
 by_cases hb:b∈fs
 ·exact u.slot b ob q n hb hx
 ·exact⟨ob.slots,u.keep b ob q n hb hx⟩
theorem Un.trans(a:Un fs ex H H1 h h1)(b:Un fs ex H1 H2 h1 h2):Un fs ex H H2 h h2 where
 keep:=fun c ob q n hc hx=>b.keep c ob (a.keep c ob q n hc hx) (a.free c ob q n hx) hc hx
 slot:=fun c ob q n hc hx=>by
  obtain⟨sl,e1⟩:=a.slot c ob q n hc hx
  obtain⟨sl',e2⟩:=b.slot c _ e1 (a.free c ob q n hx) hc hx
  exact⟨sl',e2⟩
 free:=fun c ob q n hx=>by
  obtain⟨o',e1⟩:=a.there c ob q hx
  exact b.free c o' e1 (a.free c ob q n hx) hx
 there:=fun c ob q hx=>by
  obtain⟨o',e1⟩:=a.there c ob q hx
  exact b.there c o' e1 hx
 eF:=fun c xs q=>b.eF c xs (a.eF c xs q)
 d7:=fun c ob xs q=>b.d7 c ob xs (a.d7 c ob xs q)
 eI:=fun c ps q=>by
  obtain⟨m1,e1⟩:=a.eI c ps q
  obtain⟨m2,e2⟩:=b.eI c _ e1
  exact⟨m1++m2,by rw[e2,Array.append_assoc]⟩
theorem Un.kept(k:∀b u,h.get? b=some u->h'.get? b=some u):Un fs ex H H h h':=
 ⟨fun b ob q _ _ _=>k b ob q,fun b ob q _ _ _=>⟨ob.slots,k b ob q⟩,fun _ _ _ n _=>n,fun b ob q _=>⟨ob,k b ob q⟩,fun _ _ q=>q,fun _ _ _ q=>q,fun _ ps q=>⟨#[],by rw[q];simp⟩⟩
theorem Un.refl:Un fs ex H H h h:=Un.kept fun _ _ q=>q
theorem Un.laid(k:∀b u,h.get? b=some u->h'.get? b=some u)(hp:h.objs.size<=a)(hn:H a=none):Un fs ex H (upd H a o) h h' where
 keep:=fun b u q _ _ _=>k b u q
 slot:=fun b u q _ _ _=>⟨u.slots,k b u q⟩
 free:=fun b u q n _=>by rw[ao (Nat.ne_of_lt (Nat.lt_of_lt_of_le (Heap.lt_size q) hp))];exact n
 there:=fun b u q _=>⟨u,k b u q⟩
 eF:=fun b xs q=>by rw[ao (eS q hn)];exact q
 d7:=fun b u xs q=>by rw[ao (eS q hn)];exact q
 eI:=fun b ps q=>⟨#[],by rw[ao (eS q hn),q];simp⟩
theorem Un.write(mu:oP (H x))(he:e=x\/H e=some (.own x))(k:∀b u,b≠e->h.get? b=some u->h'.get? b=some u)(heo:∃u,h'.get? e=some u):Un fs ex H (upd H x o) h h':=by
 have hx:∀b,H b=none->b≠x:=fun b n z=>by subst z;rw[n]at mu;exact mu
 have hb:∀b,H b=none->b≠e:=fun b n z=>by
  subst z
  rcases he with r|r
  ·exact hx b n r
  ·rw[n]at r;cases r
 have hm:∀b u,H b=some u->¬oP (some u)->b≠x:=fun b u q nm z=>by subst z;rw[q]at mu;exact nm mu
 refine⟨fun b u q n _ _=>k b u (hb b n) q,fun b u q n _ _=>⟨u.slots,k b u (hb b n) q⟩,fun b u q n _=>by rw[ao (hx b n)];exact n,fun b u q _=>?_,
  fun b xs q=>by rw[ao (hm b _ q fun z=>z)];exact q,fun b u xs q=>by rw[ao (hm b _ q fun z=>z)];exact q,fun b ps q=>⟨#[],by rw[ao (hm b _ q fun z=>z),q];simp⟩⟩
 by_cases hbe:b=e
 ·subst hbe;exact heo
 ·exact⟨u,k b u hbe q⟩
theorem Un.mono(u:Un fs ex H H1 h h1)(hs:∀b∈fs,b∈fs')(hx:∀b∈ex,b∈ex'):Un fs' ex' H H1 h h1:=
 ⟨fun b ob q n hb he=>u.keep b ob q n (fun z=>hb (hs b z)) fun z=>he (hx b z),fun _ _ q n _ he=>u.any q n fun z=>he (hx _ z),fun b ob q n he=>u.free b ob q n fun z=>he (hx b z),fun b ob q he=>u.there b ob q fun z=>he (hx b z),u.eF,u.d7,u.eI⟩
end
def tQ(h:Heap)(H:Hp):List Addr:=(List.range h.objs.size).filter fun a=>(H a).isSome
def il(h:Heap)(H:Hp):Heap:=PySem.W.hideAll h (tQ h H)
theorem Jm(h:Heap)(H:Hp):(il h H).objs.size=h.objs.size:=PySem.W.hideAll_size _ _
theorem Ir{h:Heap}{H:Hp}{b:Addr}{o:Obj}(e:h.get? b=some o)(n:H b=none):(il h H).get? b=some o:=
 PySem.W.hideAll_get _ e fun hm=>by
  have q:(H b).isSome=true:=(List.mem_filter.mp hm).2
  rw[n]at q;simp at q
theorem FD{h:Heap}{H:Hp}{b:Addr}{o:Obj}(e:(il h H).get? b=some o):h.get? b=some o/\H b=none:=by
 have e':h.get? b=some o:=PySem.W.of_hideAll (tQ h H) e
 refine⟨e',?_⟩
 cases q:H b with
 |none=>rfl
 |some x=>
  have hm:b∈tQ h H:=List.mem_filter.mpr ⟨List.mem_range.mpr (Heap.lt_size e'),by simp[q]⟩
  have z:(il h H).get? b=none:=PySem.W.hideAll_none (tQ h H) hm
  rw[z]at e;cases e
def Mu(g h:Heap)(L:Addr):List (Addr×Obj):=(List.range h.objs.size).filterMap fun a=>if a=L\/(g.get? a).isSome=true then none else(h.get? a).map fun o=>(a,o)
def rest(g h:Heap)(L d:Addr):List (Addr×Obj):=(Mu g h L).filter fun p=>decide (p.1≠d)
end L2
namespace L2
open PySem PySem.Spec PyProof.Rows
structure Mod(K:PySem.W.Frag)(mg:Str->Option Value)(base:Heap):Prop where
 iL:K.In base
 glob:base.Ns mainGlobals mg
 blt:∃mb,base.Ns builtinsNs mb/\∀x:Str,x≠"__name__"->mb x=bootBuiltins x
 nolimit:base.NoLimit
structure Cx where
 prog:Program
 w:World
 K:PySem.W.Frag
 mg:Str->Option Value
 base:Heap
 A:Around
 N:List Str
 bX:Shared
 mY:Hp
 env:Env
 outer:List Env
 stack:List Env
 ex:List Addr
 fn:Str->Bool
 calm:Bool
 pn:List (Addr×Obj)
 xe:Value->Shared->Prop
def ck(l:List Env):List Addr:=l.filterMap (·.frame)
abbrev Cx.fs(X:Cx):List Addr:=ck X.outer
def mK(sc:Scope)(x:Str):Prop:=sc.names.lookup x=some .local\/sc.names.lookup x=some .cell\/sc.names.lookup x=some .free
def Loc(sc:Scope)(x:Str):Prop:=sc.names.lookup x=some .local\/sc.names.lookup x=some .cell
def Look(env:Env)(h:Heap)(m:Str->Option Value)(x:Str)(u:Value):Prop:=
 (env.kindOf x=some .local/\m x=some u)\/((env.kindOf x=some .cell\/env.kindOf x=some .free)/\∃c,env.cells.lookup x=some c/\h.IsCell c (some u))
structure Cx.Ok(X:Cx):Prop where
 mod:Mod X.K X.mg X.base
 kind:X.env.scope.kind=.function
 glob:X.env.globals=mainGlobals
 blt:X.env.builtins=builtinsNs
 above:X.bX.heap.objs.size<=X.env.locals
 inj:∀x y c,X.env.cells.lookup x=some c->X.env.cells.lookup y=some c->x=y
 has:∀x,(X.env.kindOf x=some .cell\/X.env.kindOf x=some .free)->∃c,X.env.cells.lookup x=some c
 ia:∀x c,X.fn x=true->X.env.cells.lookup x=some c->X.bX.heap.objs.size<=c
 hd:X.calm=true->X.A.handled=none
 frames:X.A.frames=some X.stack
 iE:X.stack=X.outer\/(X.stack=X.env::X.outer/\X.env.frame=some X.env.locals)
 js:∀b∈X.ex,b≠X.env.locals/\∀x c,X.env.cells.lookup x=some c->c≠b
 bs:∀b o,X.base.get? b=some o->X.bX.heap.get? b=some o/\X.mY b=none
 dR:X.base.objs.size<=X.bX.heap.objs.size
 ic:∀b o,X.base.get? b=some o->b∉X.ex
 iO:∀b∈X.ex,b∉X.fs
 dq:X.bX.heap.FunFrames X.base X.outer
 fB:∀b∈X.fs,X.mY b=none
structure Inv(X:Cx)(pins:List (Addr×Obj))(σ:List (Option V))(H:Hp)(s:Shared):Prop where
 ok:X.Ok
 os:s.os=X.bX.os
 bare:AllBare s.gens
 base:Un X.fs X.ex X.mY H X.bX.heap s.heap
 loc:∃m,s.heap.Ns X.env.locals m/\∀(i:Nat)(x:Str)(v:V),X.N[i]? =some x->σ[i]? =some (some v)->mK X.env.scope x->∃u,RelV v u/\Look X.env s.heap m x u
 cell:∀x c,X.env.cells.lookup x=some c->∃v,s.heap.IsCell c v
 free:H X.env.locals=none
 dA:∀x c,X.env.cells.lookup x=some c->H c=none
 pin:∀p∈X.pn++pins,s.heap.get? p.1=some p.2/\H p.1=none/\p.1≠X.env.locals/\p.1∉X.fs/\∀v,p.2.data≠ .cell v
 ax:bz X.prog X.w H s.heap
 len:σ.length=X.N.length
section
variable {X:Cx}{pins:List (Addr×Obj)}{σ:List (Option V)}{H H':Hp}{s:Shared}{h':Heap}
theorem Cx.Ok.Hb(ok:X.Ok){b:Addr}{o:Obj}(e:X.base.get? b=some o):b∉X.fs:=fun hb=>by
 have:=(ok.dq.mem hb).1
 rw[e]at this;cases this
theorem Inv.bs(I:Inv X pins σ H s):∀b o,X.base.get? b=some o->s.heap.get? b=some o/\H b=none:=fun b o e=>
 ⟨I.base.keep b o (I.ok.bs b o e).1 (I.ok.bs b o e).2 (I.ok.Hb e) (I.ok.ic b o e),I.base.free b o (I.ok.bs b o e).1 (I.ok.bs b o e).2 (I.ok.ic b o e)⟩
theorem Inv.bk(I:Inv X pins σ H s):∀b o,X.base.get? b=some o->s.heap.get? b=some o:=fun b o e=>(I.bs b o e).1
theorem Inv.mod(I:Inv X pins σ H s):Mod X.K X.mg X.base:=I.ok.mod
theorem Inv.bh(I:Inv X pins σ H s):X.K.In s.heap:=I.ok.mod.iL.keeps I.bk
theorem Inv.nolimit(I:Inv X pins σ H s):s.heap.NoLimit:=I.ok.mod.nolimit.keeps I.bk
theorem Inv.fr(I:Inv X pins σ H s):∃m,Fr X.base X.env.locals s.heap m:=
 let⟨m,hn,_⟩:=I.loc
 ⟨m,hn,I.bk,Nat.le_trans I.ok.dR I.ok.above⟩
theorem Inv.lt(I:Inv X pins σ H s):X.env.locals<s.heap.objs.size:=let⟨_,hn,_⟩:=I.loc;hn.lt
theorem Inv.sz(I:Inv X pins σ H s):X.bX.heap.objs.size<=s.heap.objs.size:=Nat.le_trans I.ok.above (Nat.le_of_lt I.lt)
theorem Inv.D7(I:Inv X pins σ H s){a:Addr}(h:s.heap.objs.size<=a):a∉X.fs:=fun hb=>by
 obtain⟨_,o,ho,_⟩:=I.ok.dq.mem hb
 exact absurd (Nat.lt_of_lt_of_le (Heap.lt_size ho) (Nat.le_trans I.sz h)) (Nat.lt_irrefl _)
theorem Inv.ju(I:Inv X pins σ H s):∀x c,X.env.cells.lookup x=some c->c≠X.env.locals:=fun x c e z=>by
 obtain⟨v,o,ho,hd⟩:=I.cell x c e
 obtain⟨m,⟨o',es,ep,ho',hd',_⟩,_⟩:=I.loc
 rw[z,ho']at ho;cases ho;rw[hd']at hd;cases hd
theorem Inv.dq(I:Inv X pins σ H s):s.heap.FunFrames X.base X.outer:=by
 have all:∀(l:List Env),(∀b∈ck l,b∈X.fs)->X.bX.heap.FunFrames X.base l->s.heap.FunFrames X.base l:=by
  intro l
  induction l with
  |nil=>intro _ _;trivial
  |cons env r ih=>
   intro hs hl
   obtain⟨hk,⟨L,o,hf,hn,ho,hd⟩,hr⟩:=hl
   have hL:L∈X.fs:=hs L (by unfold ck;rw[List.filterMap_cons,hf];exact List.mem_cons_self)
   obtain⟨sl,e⟩:=I.base.slot L o ho (I.ok.fB L hL) hL fun z=>I.ok.iO L z hL
   exact⟨hk,⟨L,_,hf,hn,e,hd⟩,ih (fun b hb=>hs b (by unfold ck;rw[List.filterMap_cons,hf];exact List.mem_cons_of_mem _ hb)) hr⟩
 exact all X.outer (fun _ hb=>hb) I.ok.dq
theorem Inv.stack(I:Inv X pins σ H s):s.heap.FunFrames X.base X.stack:=by
 rcases I.ok.iE with e|⟨e,hf⟩
 ·rw[e];exact I.dq
 ·rw[e]
  obtain⟨m,hn,_⟩:=I.loc
  refine .cons (by rw[I.ok.kind];decide) hf hn ?_ I.dq
  exact Heap.get?_none_of_le (Nat.le_trans I.ok.dR I.ok.above)
theorem Inv.xJ(I:Inv X pins σ H s):∀b∈ck X.stack,b∈X.env.locals::X.fs:=fun b hb=>by
 rcases I.ok.iE with e|⟨e,hf⟩
 ·rw[e]at hb;exact List.mem_cons_of_mem _ hb
 ·rw[e]at hb
  unfold ck at hb
  rw[List.filterMap_cons,hf]at hb
  exact hb
theorem Inv.r9(I:Inv X pins σ H s):∀b∈ck X.stack,H b=none:=fun b hb=>by
 rcases List.mem_cons.mp (I.xJ b hb)with e|hb
 ·rw[e];exact I.free
 ·obtain⟨_,o,ho,_⟩:=I.ok.dq.mem hb
  exact I.base.free b o ho (I.ok.fB b hb) fun z=>I.ok.iO b z hb
theorem Inv.step{g':Array GenState}{t':Nat}{d':Drawn}{ch:List Addr}(I:Inv X pins σ H s)
  (hch:∀b∈ch,(b∈X.ex\/X.bX.heap.objs.size<=b)/\b≠X.env.locals/\(∀x c,X.env.cells.lookup x=some c->c≠b)/\∀p∈X.pn++pins,p.1≠b)
  (keep:∀b o,b≠X.env.locals->b∉X.fs->b∉ch->s.heap.get? b=some o->H b=none->h'.get? b=some o)
  (slot:∀b o,b≠X.env.locals->b∈X.fs->b∉ch->s.heap.get? b=some o->H b=none->∃sl,h'.get? b=some {o with slots:=sl}) (free:∀b o,b∉ch->s.heap.get? b=some o->H b=none->H' b=none)
  (there:∀b o,b∉ch->s.heap.get? b=some o->∃o',h'.get? b=some o')
  (eF:∀b xs,H b=some (.tup xs)->H' b=some (.tup xs)) (d7:∀b o u,H b=some (.cT o u)->H' b=some (.cT o u)) (eI:∀b ps,H b=some (.kl ps)->∃more,H' b=some (.kl (ps++more)))
  (ns:∀m,s.heap.Ns X.env.locals m->h'.Ns X.env.locals m) (ax:bz X.prog X.w H' h') (hg:AllBare g'):
  Inv X pins σ H' {s with heap:=h',gens:=g',drawn:=d',toks:=t'}:=by
 have neL:∀b o,X.bX.heap.get? b=some o->b≠X.env.locals:=fun b o e=>Nat.ne_of_lt (Nat.lt_of_lt_of_le (Heap.lt_size e) I.ok.above)
 have neC:∀b o,X.bX.heap.get? b=some o->b∉X.ex->b∉ch:=fun b o e hx hb=>by
  rcases(hch b hb).1 with z|z
  ·exact hx z
  ·exact absurd (Nat.lt_of_lt_of_le (Heap.lt_size e) z) (Nat.lt_irrefl _)
 have cellK:∀x c,X.env.cells.lookup x=some c->∀v,s.heap.IsCell c v->h'.IsCell c v:=fun x c e v⟨o,ho,hd⟩=>by
  have nch:c∉ch:=fun z=>(hch c z).2.2.1 x c e rfl
  by_cases hc:c∈X.fs
  ·obtain⟨sl,q⟩:=slot c o (I.ju x c e) hc nch ho (I.dA x c e)
   exact⟨_,q,hd⟩
  ·exact⟨o,keep c o (I.ju x c e) hc nch ho (I.dA x c e),hd⟩
 refine⟨I.ok,I.os,hg,⟨fun b o e n hb hx=>?_,fun b o e n hb hx=>?_,fun b o e n hx=>?_,fun b o e hx=>?_,fun b xs e=>eF b xs (I.base.eF b xs e),fun b o xs e=>d7 b o xs (I.base.d7 b o xs e),fun b ps e=>?_⟩,?_,fun x c e=>?_,?_,fun x c e=>?_,fun p hp=>?_,ax,I.len⟩
 ·exact keep b o (neL b o e) hb (neC b o e hx) (I.base.keep b o e n hb hx) (I.base.free b o e n hx)
 ·obtain⟨sl,e1⟩:=I.base.slot b o e n hb hx
  obtain⟨sl',e2⟩:=slot b _ (neL b o e) hb (neC b o e hx) e1 (I.base.free b o e n hx)
  exact⟨sl',e2⟩
 ·obtain⟨o',e1⟩:=I.base.there b o e hx
  exact free b o' (neC b o e hx) e1 (I.base.free b o e n hx)
 ·obtain⟨o',e1⟩:=I.base.there b o e hx
  exact there b o' (neC b o e hx) e1
 ·obtain⟨m1,e1⟩:=I.base.eI b ps e
  obtain⟨m2,e2⟩:=eI b _ e1
  exact⟨m1++m2,by rw[e2,Array.append_assoc]⟩
 ·obtain⟨m,hn,hl⟩:=I.loc
  refine⟨m,ns m hn,fun i x v e1 e2 e3=>?_⟩
  obtain⟨u,r,l⟩:=hl i x v e1 e2 e3
  refine⟨u,r,?_⟩
  rcases l with l|⟨k,c,e,z⟩
  ·exact .inl l
  ·exact .inr ⟨k,c,e,cellK x c e _ z⟩
 ·obtain⟨v,z⟩:=I.cell x c e
  exact⟨v,cellK x c e v z⟩
 ·obtain⟨m,⟨o,_,_,ho,_⟩,_⟩:=I.loc
  exact free _ o (fun z=>(hch _ z).2.1 rfl) ho I.free
 ·obtain⟨v,o,ho,hd⟩:=I.cell x c e
  exact free c o (fun z=>(hch c z).2.2.1 x c e rfl) ho (I.dA x c e)
 ·obtain⟨e,n,ne,nf,d⟩:=I.pin p hp
  have nch:p.1∉ch:=fun z=>(hch p.1 z).2.2.2 p hp rfl
  exact⟨keep p.1 p.2 ne nf nch e n,free p.1 p.2 nch e n,ne,nf,d⟩
theorem Inv.un{t':Nat}(I:Inv X pins σ H s)(u:Un X.fs [] H H' s.heap h')(ax:bz X.prog X.w H' h'):Inv X pins σ H' {s with heap:=h',toks:=t'}:=by
 obtain⟨m,⟨o,es,ep,ho,r⟩,_⟩:=id I.loc
 obtain⟨sl,hL⟩:=u.any ho I.free (by simp)
 exact I.step (g':=s.gens) (d':=s.drawn) (ch:=[]) (fun _ z=>nomatch z) (fun b o _ hb _ e n=>u.keep b o e n hb (by simp)) (fun b o _ hb _ e n=>u.slot b o e n hb (by simp)) (fun b o _ e n=>u.free b o e n (by simp)) (fun b o _ e=>u.there b o e (by simp)) u.eF u.d7 u.eI (fun m' hm=>by
  obtain⟨o',es',ep',ho',r'⟩:=hm
  rw[ho]at ho';cases ho'
  exact⟨_,es',ep',hL,r'⟩) ax I.bare
theorem Inv.call{g':Array GenState}{t':Nat}{d':Drawn}{ch:List Addr}(I:Inv X pins σ H s)(u:Un (ck X.stack) ch H H' s.heap h')(ax:bz X.prog X.w H' h')(hg:AllBare g')
  (hch:∀b∈ch,(b∈X.ex\/X.bX.heap.objs.size<=b)/\b≠X.env.locals/\(∀x c,X.env.cells.lookup x=some c->c≠b)/\∀p∈X.pn++pins,p.1≠b):
  Inv X pins σ H' {s with heap:=h',gens:=g',drawn:=d',toks:=t'}:=by
 obtain⟨m,⟨o,es,ep,ho,r⟩,_⟩:=id I.loc
 obtain⟨sl,hL⟩:=u.any ho I.free fun z=>(hch _ z).2.1 rfl
 exact I.step (ch:=ch) hch (fun b o hL hb hc e n=>u.keep b o e n (fun z=>(List.mem_cons.mp (I.xJ b z)).elim hL hb) hc) (fun b o _ _ hc e n=>u.any e n hc) (fun b o hc e n=>u.free b o e n hc) (fun b o hc e=>u.there b o e hc) u.eF u.d7 u.eI (fun m' hm=>by
  obtain⟨o',es',ep',ho',r'⟩:=hm
  rw[ho]at ho';cases ho'
  exact⟨_,es',ep',hL,r'⟩) ax hg
theorem Inv.turned{t':Nat}{it:Addr}(I:Inv X pins σ H s)(k:∀b o,b≠it->s.heap.get? b=some o->h'.get? b=some o)(hn:H it=none)(hL:it≠X.env.locals)
  (h1:it∈X.ex\/X.bX.heap.objs.size<=it) (h2:∀x c,X.env.cells.lookup x=some c->c≠it) (h3:∀p∈X.pn++pins,p.1≠it):Inv X pins σ H {s with heap:=h',toks:=t'}:=by
 have nit:∀b u,H b=some u->b≠it:=fun b u e z=>by rw[z,hn]at e;cases e
 refine I.step (g':=s.gens) (d':=s.drawn) (ch:=[it]) (fun b hb=>?_) (fun b o _ _ hc e _=>k b o (fun z=>hc (by simp[z])) e) (fun b o _ _ hc e _=>⟨o.slots,k b o (fun z=>hc (by simp[z])) e⟩) (fun _ _ _ _ n=>n)
  (fun b o hc e=>⟨o,k b o (fun z=>hc (by simp[z])) e⟩) (fun _ _ e=>e) (fun _ _ _ e=>e) (fun b ps e=>⟨#[],by rw[e];simp⟩) (fun m hm=>?_) (fun b u e=>?_) I.bare
 ·have e:b=it:=by simpa using hb
  subst e
  exact⟨h1,hL,h2,h3⟩
 ·obtain⟨o,es,ep,ho,r⟩:=hm
  exact⟨o,es,ep,k _ o (Ne.symm hL) ho,r⟩
 ·refine(I.ax b u e).ie (fun c v hc q=>k c v ?_ q) (fun _ q=>q) fun _ _ q=>q
  rcases hc with z|z
  ·rw[z];exact nit b u e
  ·exact nit c _ z
theorem Inv.tok(I:Inv X pins σ H s)(t:Nat):Inv X pins σ H {s with toks:=t}:=I.un (h':=s.heap) (t':=t) Un.refl I.ax
theorem Inv.kept{t':Nat}(I:Inv X pins σ H s)(k:∀b u,s.heap.get? b=some u->h'.get? b=some u):Inv X pins σ H {s with heap:=h',toks:=t'}:=I.un (Un.kept k) (I.ax.kept k)
theorem Inv.laid{a:Addr}{o:HO}{t':Nat}(I:Inv X pins σ H s)(k:∀b u,s.heap.get? b=some u->h'.get? b=some u)(hp:s.heap.objs.size<=a)(new:cf X.prog X.w (upd H a o) h' a o):
  Inv X pins σ (upd H a o) {s with heap:=h',toks:=t'}:=I.un (Un.laid k hp (I.ax.fresh hp)) (I.ax.laid k hp new)
theorem Inv.write{x e:Addr}{o:HO}{t':Nat}(I:Inv X pins σ H s)(mu:oP (H x))(he:e=x\/H e=some (.own x))(k:∀b u,b≠e->s.heap.get? b=some u->h'.get? b=some u)(heo:∃u,h'.get? e=some u)
  (new:cf X.prog X.w (upd H x o) h' x o):Inv X pins σ (upd H x o) {s with heap:=h',toks:=t'}:=I.un (Un.write mu he k heo) (I.ax.write mu he k heo new)
theorem Inv.weak{σ':List (Option V)}(I:Inv X pins σ H s)(hl:σ'.length=σ.length)(w:∀(i:Nat)v,σ'[i]? =some (some v)->σ[i]? =some (some v)):Inv X pins σ' H s:=
 ⟨I.ok,I.os,I.bare,I.base,let⟨m,hn,hl'⟩:=I.loc;⟨m,hn,fun i x v e1 e2 e3=>hl' i x v e1 (w i v e2) e3⟩,I.cell,I.free,I.dA,I.pin,I.ax,hl.trans I.len⟩
theorem Inv.A3{pins':List (Addr×Obj)}(I:Inv X pins σ H s)(h:∀p∈pins',s.heap.get? p.1=some p.2/\H p.1=none/\p.1≠X.env.locals/\p.1∉X.fs/\∀v,p.2.data≠ .cell v):Inv X pins' σ H s:=
 ⟨I.ok,I.os,I.bare,I.base,I.loc,I.cell,I.free,I.dA,fun p hp=>(List.mem_append.mp hp).elim (fun z=>I.pin p (List.mem_append_left _ z)) (h p),I.ax,I.len⟩
theorem xp{N:List Str}(hN:N.Nodup){i j:Nat}{x:Str}(a:N[i]? =some x)(b:N[j]? =some x):i=j:=by
 obtain⟨h1,e1⟩:=List.getElem?_eq_some_iff.mp a
 obtain⟨h2,e2⟩:=List.getElem?_eq_some_iff.mp b
 exact(List.getElem_inj hN).mp (e1.trans e2.symm)
theorem D9{M:Model}{A:Around}{E:Value->Shared->Prop}{i:Nat}{x:Str}{v:V}{u:Value}{Q:Unit->Shared->Prop}(I:Inv X pins σ H s)(hN:X.N.Nodup)(hi:X.N[i]? =some x)(hx:Loc X.env.scope x)(r:RelV v u)
  (h:∀s',Inv X pins (σ.set i (some v)) H s'->(∃a,Heap.SameBut a s.heap s'.heap/\(a=X.env.locals\/X.env.cells.lookup x=some a))->Q () s') (hf:X.fn x=true\/X.env.scope.names.lookup x=some .local:=by first|exact .inl rfl|exact .inr rfl|assumption):wpAny M A (storeName X.env x u) Q E s:=by
 obtain⟨m,hn,hl⟩:=id I.loc
 have hcls:(X.env.scope.kind== .class||(X.env.scope.kind== .module&&X.env.locals !=X.env.globals))=false:=by rw[I.ok.kind];rfl
 have hiσ:i<σ.length:=by rw[I.len];exact(List.getElem?_eq_some_iff.mp hi).1
 have ju:=I.ju
 have tracked:∀{a:Addr}{h':Heap},(∃o,s.heap.get? a=some o/\H a=none)->Heap.SameBut a s.heap h'->bz X.prog X.w H h':=fun{a h'}ha hs b ob e=>by
  obtain⟨_,_,hfree⟩:=ha
  refine(I.ax b ob e).ie (fun c w' hc q=>(hs.2 c ?_).trans q) (fun _ q=>q) fun _ _ q=>q
  rintro rfl
  rcases hc with rfl|hc
  ·rw[hfree]at e;cases e
  ·rw[hfree]at hc;cases hc
 rcases hx with hk|hk
 ·refine wpAny_storeName_local hk hn (fun h' hn' hs=>?_) hcls
  obtain⟨oL,_,_,hoL,_⟩:=id hn
  refine h _ ⟨I.ok,I.os,I.bare,⟨fun b o e n hb hx=>?_,fun b o e n hb hx=>?_,I.base.free,fun b o e hx=>?_,I.base.eF,I.base.d7,I.base.eI⟩,⟨_,hn',fun j y v' e1 e2 e3=>?_⟩,fun y c e=>?_,I.free,I.dA,fun p hp=>?_,tracked ⟨oL,hoL,I.free⟩ hs,by simpa using I.len⟩ ⟨_,hs,.inl rfl⟩
  ·exact(hs.2 b (Nat.ne_of_lt (Nat.lt_of_lt_of_le (Heap.lt_size e) I.ok.above))).trans (I.base.keep b o e n hb hx)
  ·obtain⟨sl,e1⟩:=I.base.slot b o e n hb hx
   exact⟨sl,(hs.2 b (Nat.ne_of_lt (Nat.lt_of_lt_of_le (Heap.lt_size e) I.ok.above))).trans e1⟩
  ·obtain⟨o',e1⟩:=I.base.there b o e hx
   exact⟨o',(hs.2 b (Nat.ne_of_lt (Nat.lt_of_lt_of_le (Heap.lt_size e) I.ok.above))).trans e1⟩
  ·by_cases hj:j=i
   ·subst hj
    rw[hi]at e1;cases e1
    rw[List.getElem?_set_self hiσ]at e2
    cases e2
    exact⟨u,r,.inl ⟨hk,by simp⟩⟩
   ·rw[List.getElem?_set_ne (Ne.symm hj)]at e2
    obtain⟨u',r',q⟩:=hl j y v' e1 e2 e3
    refine⟨u',r',?_⟩
    rcases q with ⟨k,e⟩|⟨k,c,e,z⟩
    ·refine .inl ⟨k,?_⟩
     have:y≠x:=fun e=>hj (xp hN e1 (e▸hi))
     simp[this,e]
    ·exact .inr ⟨k,c,e,z.sameBut hs (ju y c e)⟩
  ·obtain⟨w',z⟩:=I.cell y c e
   exact⟨w',z.sameBut hs (ju y c e)⟩
  ·obtain⟨e,n,ne,nf,d⟩:=I.pin p hp
   exact⟨(hs.2 p.1 ne).trans e,n,ne,nf,d⟩
 ·have hfn:X.fn x=true:=by
   rcases hf with z|z
   ·exact z
   ·rw[z]at hk;cases hk
  obtain⟨c,hc⟩:=I.ok.has x (.inl hk)
  obtain⟨w',z⟩:=I.cell x c hc
  refine wpAny_storeName_cell I.ok.kind hk hc z (fun h' hc' hs=>?_)
  obtain⟨oc,hoc,hocd⟩:=id z
  refine h {s with heap:=h'} ⟨I.ok,I.os,I.bare,⟨fun b o e n hb hx=>?_,fun b o e n hb hx=>?_,I.base.free,fun b o e hx=>?_,I.base.eF,I.base.d7,I.base.eI⟩,⟨m,hn.sameBut hs (Ne.symm (ju x c hc)),fun j y v' e1 e2 e3=>?_⟩,fun y c' e=>?_,I.free,I.dA,fun p hp=>?_,tracked ⟨oc,hoc,I.dA x c hc⟩ hs,by simpa using I.len⟩ ⟨c,hs,.inr hc⟩
  ·exact(hs.2 b (Nat.ne_of_lt (Nat.lt_of_lt_of_le (Heap.lt_size e) (I.ok.ia x c hfn hc)))).trans (I.base.keep b o e n hb hx)
  ·obtain⟨sl,e1⟩:=I.base.slot b o e n hb hx
   exact⟨sl,(hs.2 b (Nat.ne_of_lt (Nat.lt_of_lt_of_le (Heap.lt_size e) (I.ok.ia x c hfn hc)))).trans e1⟩
  ·obtain⟨o',e1⟩:=I.base.there b o e hx
   exact⟨o',(hs.2 b (Nat.ne_of_lt (Nat.lt_of_lt_of_le (Heap.lt_size e) (I.ok.ia x c hfn hc)))).trans e1⟩
  ·by_cases hj:j=i
   ·subst hj
    rw[hi]at e1;cases e1
    rw[List.getElem?_set_self hiσ]at e2
    cases e2
    exact⟨u,r,.inr ⟨.inl hk,c,hc,hc'⟩⟩
   ·rw[List.getElem?_set_ne (Ne.symm hj)]at e2
    obtain⟨u',r',q⟩:=hl j y v' e1 e2 e3
    refine⟨u',r',?_⟩
    rcases q with q|⟨k,c',e,z'⟩
    ·exact .inl q
    ·refine .inr ⟨k,c',e,z'.sameBut hs ?_⟩
     rintro rfl
     exact hj (xp hN e1 (I.ok.inj _ _ _ e hc▸hi))
  ·by_cases hcc:c'=c
   ·subst hcc;exact⟨_,hc'⟩
   ·obtain⟨w2,z2⟩:=I.cell y c' e
    exact⟨w2,z2.sameBut hs hcc⟩
  ·obtain⟨e,n,ne,nf,d⟩:=I.pin p hp
   refine⟨(hs.2 p.1 ?_).trans e,n,ne,nf,d⟩
   intro q
   rw[q,hoc]at e
   have q':oc=p.2:=Option.some.inj e
   exact d w' (by rw[<-q'];exact hocd)
theorem tP{M:Model}{A:Around}{E:Value->Shared->Prop}{i:Nat}{x:Str}{v:V}{u:Value}{Q:Unit->Shared->Prop}(I:Inv X pins σ H s)(hN:X.N.Nodup)(hi:X.N[i]? =some x)(hx:Loc X.env.scope x)(r:RelV v u)
  (h:∀s',Inv X pins (σ.set i (some v)) H s'->Q () s') (hf:X.fn x=true\/X.env.scope.names.lookup x=some .local:=by first|exact .inl rfl|exact .inr rfl|assumption):wpAny M A (storeName X.env x u) Q E s:=
 D9 I hN hi hx r (fun s' I' _=>h s' I') hf
theorem Inv.K9{s':Shared}{ch:List Addr}(I:Inv X pins σ H s)(ho:s'.os=s.os)(u:Un (ck X.stack) ch H H' s.heap s'.heap)(ax:bz X.prog X.w H' s'.heap)(hg:AllBare s'.gens)
  (hch:∀b∈ch,(b∈X.ex\/X.bX.heap.objs.size<=b)/\b≠X.env.locals/\(∀x c,X.env.cells.lookup x=some c->c≠b)/\∀p∈X.pn++pins,p.1≠b):Inv X pins σ H' s':=by
 obtain⟨h',g',d',t',o'⟩:=s'
 have e:o'=s.os:=ho
 subst e
 exact I.call (g':=g') (t':=t') (d':=d') u ax hg hch
end
abbrev XK:=Value->Option Addr->Hp->Prop
abbrev St:=List (Option V)
abbrev VK:=V->Hp->Prop
abbrev TE:=St->Hp->VK->Prop
abbrev TT:=St->Hp->(Bool->Hp->Prop)->Prop
abbrev TA:=St->Hp->(List V->Hp->Prop)->Prop
structure Ends where
 nx:St->Hp->Prop
 rt:VK
 bk:St->Hp->Prop:=fun _ _=>False
 ct:St->Hp->Prop:=fun _ _=>False
abbrev TS:=Ends->St->Hp->Prop
def EP(X:Cx)(pins:List (Addr×Obj))(σ:St)(Q:VK)(u:Value)(s':Shared):Prop:=∃v H',Inv X pins σ H' s'/\RelV v u/\Q v H'
def TP(X:Cx)(pins:List (Addr×Obj))(σ:St)(Q:Bool->Hp->Prop)(b:Bool)(s':Shared):Prop:=∃H',Inv X pins σ H' s'/\Q b H'
def AP(X:Cx)(pins:List (Addr×Obj))(σ:St)(Q:List V->Hp->Prop)(us:List Value)(s':Shared):Prop:=∃vs H',Inv X pins σ H' s'/\aF vs us/\Q vs H'
def SP(X:Cx)(pins:List (Addr×Obj))(D:Ends)(f:Flow)(s':Shared):Prop:=
 match f with
 | .next=>∃σ' H',Inv X pins σ' H' s'/\D.nx σ' H'
 | .brk=>∃σ' H',Inv X pins σ' H' s'/\D.bk σ' H'
 | .cont=>∃σ' H',Inv X pins σ' H' s'/\D.ct σ' H'
 | .ret u=>∃v σ' H',Inv X pins σ' H' s'/\RelV v u/\D.rt v H'
def PE(X:Cx)(e:Expr)(t:TE):Prop:=
 ∀(pins:List (Addr×Obj))(s:Shared)(σ:St)(H:Hp)(Q:VK),Inv X pins σ H s->t σ H Q->wpAny (model X.prog X.w) X.A (eval e X.env) (EP X pins σ Q) X.xe s
def PT(X:Cx)(e:Expr)(t:TT):Prop:=
 ∀(pins:List (Addr×Obj))(s:Shared)(σ:St)(H:Hp)(Q:Bool->Hp->Prop),Inv X pins σ H s->t σ H Q->wpAny (model X.prog X.w) X.A (isTrue e X.env (eval e X.env)) (TP X pins σ Q) X.xe s
def PW(X:Cx)(e:Expr)(t:TT):Prop:=
 ∀(whole:Sem Value)(pins:List (Addr×Obj))(s:Shared)(σ:St)(H:Hp)(Q:Bool->Hp->Prop),Inv X pins σ H s->t σ H Q->wpAny (model X.prog X.w) X.A (isTrue e X.env whole) (TP X pins σ Q) X.xe s
theorem PW.pt{X:Cx}{e:Expr}{t:TT}(h:PW X e t):PT X e t:=h _
def PA(X:Cx)(es:List Expr)(t:TA):Prop:=
 ∀(pos:Pos)(pins:List (Addr×Obj))(s:Shared)(σ:St)(H:Hp)(Q:List V->Hp->Prop),Inv X pins σ H s->t σ H Q->wpAny (model X.prog X.w) X.A (spliced (backTo pos (starEach es X.env))) (AP X pins σ Q) X.xe s
def PS(X:Cx)(st:Stmt)(t:TS):Prop:=
 ∀(pins:List (Addr×Obj))(s:Shared)(σ:St)(H:Hp)(D:Ends),Inv X pins σ H s->t D σ H->wpAny (model X.prog X.w) X.A (exec st X.env) (SP X pins D) X.xe s
def dI(X:Cx)(st:List Stmt)(t:TS):Prop:=
 ∀(pins:List (Addr×Obj))(s:Shared)(σ:St)(H:Hp)(D:Ends),Inv X pins σ H s->t D σ H->wpAny (model X.prog X.w) X.A (execs st X.env) (SP X pins D) X.xe s
theorem aJ{α:Type}{t:Sem α}{Q Q':α->Shared->Prop}{M:Model}{A:Around}{E:Value->Shared->Prop}{s:Shared}(h:wpAny M A t Q E s)(hQ:∀a s,Q a s->Q' a s):wpAny M A t Q' E s:=wpAny_mono h hQ fun _ _ x=>x
end L2
namespace L2
open PySem PySem.Spec PyProof.Rows
section
variable {X:Cx}
def bA(i:Nat):TE:=fun σ H Q=>∃v,σ[i]? =some (some v)/\Q v H
def tC(v:V):TE:=fun _ H Q=>Q v H
theorem J4{i:Nat}{x:Str}{pos:Pos}(hN:X.N[i]? =some x)(hv:mK X.env.scope x)(hd:(x==("__debug__":Str))=false:=by decide)(hcd:(x==("__classdict__":Str))=false:=by decide):PE X (.Name x pos) (bA i):=by
 intro pins s σ H Q I h
 obtain⟨v,e,h⟩:=h
 obtain⟨m,hn,hl⟩:=I.loc
 obtain⟨u,r,l⟩:=hl i x v hN e hv
 have fin:EP X pins σ Q u s:=⟨v,H,I,r,h⟩
 rcases l with ⟨hk,hm⟩|⟨hk,c,hc,hcell⟩
 ·exact wpAny_Name (wpAny_loadName_local I.ok.kind hk hn hm fin) hd
 ·rcases hk with hk|hk
  ·exact wpAny_Name (wpAny_loadName_cell I.ok.kind hk hc hcell fin) hd
  ·exact wpAny_Name (wpAny_loadName_free I.ok.kind hk hc hcell fin hcd) hd
theorem bN{i j pos}:PE X (.Constant (.int i) j pos) (tC (.int i)):=fun _ _ _ H _ I h=>wpAny_Constant_int ⟨.int i,H,I.tok _,⟨_,rfl⟩,h⟩
theorem MB{b j pos}:PE X (.Constant (.bool b) j pos) (tC (.bl b)):=fun _ _ _ H _ I h=>Constant_bool ⟨.bl b,H,I,rfl,h⟩
theorem iu{j pos}:PE X (.Constant .none j pos) (tC .aw):=fun _ _ _ H _ I h=>Constant_none ⟨.aw,H,I,rfl,h⟩
theorem aQ{x j pos}:PE X (.Constant (.str x) j pos) (tC (.str x)):=fun _ _ _ H _ I h=>Calls.Constant_str ⟨.str x,H,I.tok _,⟨_,rfl⟩,h⟩
def Gl(X:Cx)(x:Str):Prop:=X.env.kindOf x=some .globalImplicit
theorem hU{E:Value->Shared->Prop}{pins:List (Addr×Obj)}{s:Shared}{σ:St}{H:Hp}{x:Str}{u:Value}{pos:Pos}{Q:Value->Shared->Prop}(I:Inv X pins σ H s)(hg:Gl X x)(hm:X.mg x=some u)(h:Q u s)
  (hd:(x==("__debug__":Str))=false:=by decide):wpAny (model X.prog X.w) X.A (eval (.Name x pos) X.env) Q E s:=
 Calls.Name_function_global I.ok.kind hg (Calls.loadGlobal_global (by rw[I.ok.glob];exact I.mod.glob.keeps I.bk) hm h) hd
theorem DD{E:Value->Shared->Prop}{pins:List (Addr×Obj)}{s:Shared}{σ:St}{H:Hp}{x:Str}{u:Value}{pos:Pos}{Q:Value->Shared->Prop}(I:Inv X pins σ H s)(hg:Gl X x)(hm:X.mg x=none)(hv:bootBuiltins x=some u)(h:Q u s)
  (hn:x≠"__name__":=by decide) (hd:(x==("__debug__":Str))=false:=by decide):wpAny (model X.prog X.w) X.A (eval (.Name x pos) X.env) Q E s:=by
 obtain⟨mb,h1,h2⟩:=I.mod.blt
 exact Calls.Name_function_global I.ok.kind hg (Calls.loadGlobal_builtin (by rw[I.ok.glob];exact I.mod.glob.keeps I.bk) hm (by rw[I.ok.blt];exact h1.keeps I.bk) ((h2 x hn).trans hv) h) hd
theorem oE{x:Str}{v:V}{u:Value}{pos:Pos}(hg:Gl X x)(hm:X.mg x=some u)(r:RelV v u)(hd:(x==("__debug__":Str))=false:=by decide):PE X (.Name x pos) (tC v):=
 fun _ _ _ H _ I h=>hU I hg hm ⟨v,H,I,r,h⟩ hd
variable {a b:Expr}{ta tb:TE}{pos:Pos}
def PC(X:Cx)(op:CmpOp)(a b:Expr)(t:TE):Prop:=
 ∀(pins:List (Addr×Obj))(s:Shared)(σ:St)(H:Hp)(Q:VK),Inv X pins σ H s->t σ H Q->
  wpAny (model X.prog X.w) X.A (eval a X.env) (fun v s₁=>wpAny (model X.prog X.w) X.A (eval b X.env) (fun u s₂=>wpAny (model X.prog X.w) X.A (compareOp op v u) (EP X pins σ Q) X.xe s₂) X.xe s₁) X.xe s
theorem Jz(b:Expr){op:CmpOp}(h:op≠ .In)(h2:op≠ .NotIn):behindInMarks op b=false:=by
 have e1:(op==CmpOp.In)=false:=by cases op<;>first|rfl|exact absurd rfl h
 have e2:(op==CmpOp.NotIn)=false:=by cases op<;>first|rfl|exact absurd rfl h2
 cases b<;>simp[behindInMarks,e1,e2]
def tB(t:TE):TT:=fun σ H Q=>t σ H fun x H1=>∃c,x=.bl c/\Q c H1
theorem yN{op:CmpOp}{t:TE}(h:PC X op a b t)(h1:behindInMarks op b=false:=by first|exact Jz _ (by decide) (by decide)|rfl):PT X (.Compare a [op] [b] pos) (tB t):=by
 intro pins s σ H Q I hw
 refine wpAny_isTrue_Compare1 (aJ (h pins s σ H _ I hw) fun v s1 h1=>aJ h1 fun u s2 h2=>aJ h2 fun c s3⟨x,H1,I1,r1,q1⟩=>?_) h1
 obtain⟨d,rfl,q⟩:=q1
 cases r1
 exact wpAny_truthy_bool ⟨H1,I1,q⟩
theorem di{e:Expr}{t:TE}(h:PE X e t)(he:∀whole,isTrue e X.env whole=(do let v <-whole;standAt e.pos;holding [v] (truthy v)):=by intro _;rfl):PT X e (tB t):=by
 intro pins s σ H Q I hw
 refine isTrue_plain (aJ (h pins s σ H _ I hw) fun v s1⟨x,H1,I1,r1,q1⟩=>?_) (he _)
 obtain⟨d,rfl,q⟩:=q1
 cases r1
 exact wpAny_truthy_bool ⟨H1,I1,q⟩
variable {tA tB':TT}{rest:List Expr}
def Eg(t u:TT):TT:=fun σ H Q=>t σ H fun c H1=>if c=true then u σ H1 Q else Q false H1
def rB(t u:TT):TT:=fun σ H Q=>t σ H fun c H1=>if c=true then Q true H1 else u σ H1 Q
theorem pL(ha:PT X a tA):PW X (.BoolOp .And [a] pos) tA:=by
 intro wh pins s σ H Q I h
 refine isTrue_and (aJ (ha pins s σ H Q I h) fun c s1 e=>?_)
 cases c with
 |true=>exact isTrue_and_nil e
 |false=>exact e
theorem iM(ha:PT X a tA):PW X (.BoolOp .Or [a] pos) tA:=by
 intro wh pins s σ H Q I h
 refine isTrue_or (aJ (ha pins s σ H Q I h) fun c s1 e=>?_)
 cases c with
 |false=>exact isTrue_or_nil e
 |true=>exact e
theorem lI(ha:PT X a tA)(hb:PW X (.BoolOp .And (b::rest) pos) tB'):PW X (.BoolOp .And (a::b::rest) pos) (Eg tA tB'):=by
 intro wh pins s σ H Q I h
 refine isTrue_and (aJ (ha pins s σ H _ I h) fun c s1⟨H1,I1,q1⟩=>?_)
 cases c with
 |true=>exact hb wh pins s1 σ H1 Q I1 q1
 |false=>exact⟨H1,I1,q1⟩
theorem iq(ha:PT X a tA)(hb:PW X (.BoolOp .Or (b::rest) pos) tB'):PW X (.BoolOp .Or (a::b::rest) pos) (rB tA tB'):=by
 intro wh pins s σ H Q I h
 refine isTrue_or (aJ (ha pins s σ H _ I h) fun c s1⟨H1,I1,q1⟩=>?_)
 cases c with
 |true=>exact⟨H1,I1,q1⟩
 |false=>exact hb wh pins s1 σ H1 Q I1 q1
def CU(ta tb:TE):TE:=fun σ H Q=>ta σ H fun x H1=>∃c,x=.bl c/\if c=true then tb σ H1 Q else Q (.bl false) H1
def Ka(ta tb:TE):TE:=fun σ H Q=>ta σ H fun x H1=>∃c,x=.bl c/\if c=true then Q (.bl true) H1 else tb σ H1 Q
theorem sf{op}{t:TE}(h:PE X a t):PE X (.BoolOp op [a] pos) t:=fun pins s σ H Q I hw=>BoolOp_one (h pins s σ H Q I hw)
theorem BZ(ha:PE X a ta)(hb:PE X (.BoolOp .And (b::rest) pos) tb):PE X (.BoolOp .And (a::b::rest) pos) (CU ta tb):=by
 intro pins s σ H Q I h
 refine BoolOp_and (aJ (ha pins s σ H _ I h) fun v s1⟨x,H1,I1,r1,q1⟩=>?_)
 obtain⟨c,rfl,q1⟩:=q1
 cases r1
 refine wpAny_truthy_bool ?_
 cases c with
 |true=>exact hb pins s1 σ H1 Q I1 q1
 |false=>exact⟨.bl false,H1,I1,rfl,q1⟩
theorem sU(ha:PE X a ta)(hb:PE X (.BoolOp .Or (b::rest) pos) tb):PE X (.BoolOp .Or (a::b::rest) pos) (Ka ta tb):=by
 intro pins s σ H Q I h
 refine BoolOp_or (aJ (ha pins s σ H _ I h) fun v s1⟨x,H1,I1,r1,q1⟩=>?_)
 obtain⟨c,rfl,q1⟩:=q1
 cases r1
 refine wpAny_truthy_bool ?_
 cases c with
 |false=>exact hb pins s1 σ H1 Q I1 q1
 |true=>exact⟨.bl true,H1,I1,rfl,q1⟩
def AB(t:TT)(ta tb:TE):TE:=fun σ H Q=>t σ H fun c H1=>if c=true then ta σ H1 Q else tb σ H1 Q
theorem Af{c:Expr}(hc:PT X c tA)(ha:PE X a ta)(hb:PE X b tb):PE X (.IfExp c a b pos) (AB tA ta tb):=by
 intro pins s σ H Q I h
 refine wpAny_IfExp (aJ (hc pins s σ H _ I h) fun d s1⟨H1,I1,q1⟩=>?_)
 cases d with
 |true=>exact ha pins s1 σ H1 Q I1 q1
 |false=>exact hb pins s1 σ H1 Q I1 q1
end
end L2
namespace L2
open PySem PySem.Spec PyProof.Rows
def aO(K:PySem.W.Frag)(H:Hp)(a:Addr)(xs:List V):Prop:=
 Rd H a (.lst xs)\/
  ∃(o:Obj)(its:Array Value)(n:Nat),K.lookup a=some o/\o.cls=.type "list"/\o.dict=none/\o.data=.seq its n/\its.size<=sizeLine/\aF xs its.toList
def fo(K:PySem.W.Frag)(H:Hp)(a:Addr)(xs:List V):Prop:=
 Rd H a (.tup xs)\/
  ∃(o:Obj)(its:Array Value)(n:Nat),K.lookup a=some o/\o.cls=.type "tuple"/\o.data=.seq its n/\its.size<=sizeLine/\aF xs its.toList
def GU:Value->Option V
 | .none=>some .aw
 | .bool b=>some (.bl b)
 | .int i _=>some (.int i)
 | .str x _=>some (.str x)
 | .bytes b _=>some (.dZ b)
 | .float b _=>some (.jR b)
 | .ref a=>some (.ref a)
 | .type n=>some (.ty n)
 |_=>none
theorem RelV.abs{x:V}{u:Value}(r:RelV x u):GU u=some x:=by
 cases x with
 |aw=>cases r;rfl
 |bl _=>cases r;rfl
 |int _=>obtain⟨t,rfl⟩:=r;rfl
 |str _=>obtain⟨t,rfl⟩:=r;rfl
 |dZ _=>obtain⟨t,rfl⟩:=r;rfl
 |jR _=>obtain⟨t,rfl⟩:=r;rfl
 |ref _=>cases r;rfl
 |ty _=>cases r;rfl
theorem RelV.inj{x y:V}{u:Value}(r:RelV x u)(q:RelV y u):x=y:=Option.some.inj (r.abs.symm.trans q.abs)
theorem aF.inj:∀{xs ys:List V}{us:List Value},aF xs us->aF ys us->xs=ys
 |_,_,_,.nil,.nil=>rfl
 |_,_,_,.cons r t,.cons r' t'=>by rw[r.inj r',aF.inj t t']
section
variable {X:Cx}{pins:List (Addr×Obj)}{σ:St}{H:Hp}{s:Shared}{a:Addr}{xs ys:List V}
theorem aO.of{K:PySem.W.Frag}(h:H a=some (.lst xs)):aO K H a xs:=.inl (.inl h)
theorem fo.of{K:PySem.W.Frag}(h:H a=some (.tup xs)):fo K H a xs:=.inl (.inl h)
theorem Inv.list(I:Inv X pins σ H s)(h:aO X.K H a xs):∃its:List Value,aF xs its/\PlainL s.heap a its.toArray/\xs.length<=sizeLine:=by
 rcases h with h|⟨o,its,n,hk,hc,hd,hs,hz,r⟩
 ·obtain⟨z,its,n,r,e⟩:=h.ok I.ax
  exact⟨its,r,⟨_,n,e,rfl,rfl,rfl⟩,z⟩
 ·refine⟨its.toList,r,⟨o,n,I.bh a o hk,hc,hd,by simpa using hs⟩,?_⟩
  have e:=r.length
  simp only[Array.length_toList]at e
  omega
theorem Inv.tuple(I:Inv X pins σ H s)(h:fo X.K H a xs):∃its:List Value,aF xs its/\IsTup s.heap a its.toArray/\xs.length<=sizeLine:=by
 rcases h with h|⟨o,its,n,hk,hc,hs,hz,r⟩
 ·obtain⟨z,its,r,p⟩:=h.ok I.ax
  exact⟨its,r,p,z⟩
 ·refine⟨its.toList,r,⟨o,I.bh a o hk,hc,n,by simpa using hs⟩,?_⟩
  have e:=r.length
  simp only[Array.length_toList]at e
  omega
theorem Inv.HJ(I:Inv X pins σ H s)(h:aO X.K H a xs)(h':aO X.K H a ys):xs=ys:=by
 obtain⟨its,r,⟨o,n,e,_,_,d⟩,_⟩:=I.list h
 obtain⟨its',r',⟨o',n',e',_,_,d'⟩,_⟩:=I.list h'
 rw[e]at e';cases e'
 rw[d]at d'
 injection d' with d1 _
 have:its=its':=by simpa using congrArg Array.toList d1
 subst this
 exact r.inj r'
end
abbrev Cx.gb(X:Cx)(E:Value->Shared->Prop):Cx:={X with xe:=E}
abbrev Cx.iY(X:Cx):Cx:=X.gb fun _ _=>False
theorem Cx.Ok.gb{X:Cx}(ok:X.Ok)(E:Value->Shared->Prop):(X.gb E).Ok:=
 ⟨ok.mod,ok.kind,ok.glob,ok.blt,ok.above,ok.inj,ok.has,ok.ia,ok.hd,ok.frames,ok.iE,ok.js,ok.bs,ok.dR,ok.ic,ok.iO,ok.dq,ok.fB⟩
theorem Cx.Ok.gG{X:Cx}{E:Value->Shared->Prop}(ok:(X.gb E).Ok):X.Ok:=
 ⟨ok.mod,ok.kind,ok.glob,ok.blt,ok.above,ok.inj,ok.has,ok.ia,ok.hd,ok.frames,ok.iE,ok.js,ok.bs,ok.dR,ok.ic,ok.iO,ok.dq,ok.fB⟩
section
variable {X:Cx}{pins:List (Addr×Obj)}{σ:St}{H:Hp}{s:Shared}{E:Value->Shared->Prop}
theorem Inv.gb(I:Inv X pins σ H s)(E:Value->Shared->Prop):Inv (X.gb E) pins σ H s:=⟨I.ok.gb E,I.os,I.bare,I.base,I.loc,I.cell,I.free,I.dA,I.pin,I.ax,I.len⟩
theorem Inv.gG(I:Inv (X.gb E) pins σ H s):Inv X pins σ H s:=⟨I.ok.gG,I.os,I.bare,I.base,I.loc,I.cell,I.free,I.dA,I.pin,I.ax,I.len⟩
theorem SP.gG{D:Ends}{f:Flow}{s':Shared}(h:SP (X.gb E) pins D f s'):SP X pins D f s':=by
 cases f with
 |next=>obtain⟨σ',H',I,q⟩:=h;exact⟨σ',H',I.gG,q⟩
 |brk=>obtain⟨σ',H',I,q⟩:=h;exact⟨σ',H',I.gG,q⟩
 |cont=>obtain⟨σ',H',I,q⟩:=h;exact⟨σ',H',I.gG,q⟩
 |ret u=>obtain⟨v,σ',H',I,r,q⟩:=h;exact⟨v,σ',H',I.gG,r,q⟩
theorem PE.iY{e:Expr}{t:TE}(h:PE X.iY e t):PE X e t:=fun pins s σ H Q I hw=>
 wpAny_mono (h pins s σ H Q (I.gb _) hw) (fun _ _⟨v,H',I',r,q⟩=>⟨v,H',I'.gG,r,q⟩) fun _ _ z=>False.elim z
theorem PT.iY{e:Expr}{t:TT}(h:PT X.iY e t):PT X e t:=fun pins s σ H Q I hw=>
 wpAny_mono (h pins s σ H Q (I.gb _) hw) (fun _ _⟨H',I',q⟩=>⟨H',I'.gG,q⟩) fun _ _ z=>False.elim z
theorem dI.iY{st:List Stmt}{t:TS}(h:dI X.iY st t):dI X st t:=fun pins s σ H D I hw=>
 wpAny_mono (h pins s σ H D (I.gb _) hw) (fun _ _ q=>q.gG) fun _ _ z=>False.elim z
end
section
variable {X:Cx}{st:Stmt}{rest:List Stmt}{t u:TS}{e:Expr}{te:TE}{pos:Pos}
def sI:TS:=fun D σ H=>D.nx σ H
def ki(t u:TS):TS:=fun D σ H=>t {D with nx:=u D} σ H
theorem bj:dI X [] sI:=fun _ _ σ H _ I h=>wpAny_execs_nil ⟨σ,H,I,h⟩
theorem ai(h1:PS X st t)(h2:dI X rest u):dI X (st::rest) (ki t u):=by
 intro pins s σ H D I h
 refine wpAny_execs_cons (aJ (h1 pins s σ H {D with nx:=u D} I h) fun f s1 q=>?_)
 cases f with
 |next=>
  obtain⟨σ',H',I',q⟩:=q
  exact h2 pins s1 σ' H' D I' q
 |ret v=>exact q
 |brk=>exact q
 |cont=>exact q
theorem ak(h1:PS X st t):dI X [st] t:=by
 intro pins s σ H D I h
 refine wpAny_execs_cons (aJ (h1 pins s σ H D I h) fun f s1 q=>?_)
 cases f with
 |next=>exact wpAny_execs_nil q
 |ret v=>exact q
 |brk=>exact q
 |cont=>exact q
theorem Inv.quiet{pins:List (Addr×Obj)}{σ:St}{H:Hp}{s:Shared}(I:Inv X pins σ H s):interactive X.env=false:=by simp[interactive,I.ok.kind]
def EU(te:TE):TS:=fun D σ H=>te σ H fun _ H1=>D.nx σ H1
theorem a0(he:PE X e te)(hs:swapsWith e none pos.line X.env=pure false:=by rfl):PS X (.Expr e pos) (EU te):=by
 intro pins s σ H D I h
 exact wpAny_Expr_any (aJ (he pins s σ H _ I h) fun v s1⟨x,H1,I1,r1,q1⟩=>⟨σ,H1,I1,q1⟩) I.quiet hs
def mJ(te:TE):TS:=fun D σ H=>te σ H D.rt
theorem aK(he:PE X e te):PS X (.Return (some e) pos) (mJ te):=by
 intro pins s σ H D I h
 exact wpAny_Return_some (aJ (he pins s σ H _ I h) fun v s1⟨x,H1,I1,r1,q1⟩=>⟨x,σ,H1,I1,r1,q1⟩)
def Ja:TS:=fun D _ H=>D.rt .aw H
theorem K8:PS X (.Return none pos) Ja:=fun _ _ σ H _ I h=>wpAny_Return_none ⟨.aw,σ,H,I,rfl,h⟩
def tV(c:TT)(t u:TS):TS:=fun D σ H=>c σ H fun b H1=>if b=true then t D σ H1 else u D σ H1
theorem a7{c:Expr}{a b:List Stmt}{tc:TT}(hc:PT X c tc)(ha:dI X a t)(hb:dI X b u):PS X (.If c a b pos) (tV tc t u):=by
 intro pins s σ H D I h
 refine wpAny_If (aJ (hc pins s σ H _ I h) fun d s1⟨H1,I1,q1⟩=>?_)
 cases d with
 |true=>exact ha pins s1 σ H1 D I1 q1
 |false=>exact hb pins s1 σ H1 D I1 q1
end
abbrev TG:=V->St->Hp->(St->Hp->Prop)->Prop
def PG(X:Cx)(target:Expr)(t:TG):Prop:=
 ∀(pins:List (Addr×Obj))(s:Shared)(σ:St)(H:Hp)(v:V)(u:Value)(Q:St->Hp->Prop),Inv X pins σ H s->RelV v u->t v σ H Q->
  wpAny (model X.prog X.w) X.A (assign target X.env u) (fun _ s'=>∃σ' H',Inv X pins σ' H' s'/\Q σ' H') X.xe s
abbrev se:=V->V->Hp->VK->Prop
def AG(X:Cx)(op:Operator)(t:se):Prop:=
 ∀(pins:List (Addr×Obj))(s:Shared)(σ:St)(H:Hp)(x y:V)(v u:Value)(Q:VK),Inv X pins σ H s->RelV x v->RelV y u->t x y H Q->
  wpAny (model X.prog X.w) X.A (inplaceOp op v u) (EP X pins σ Q) X.xe s
section
variable {X:Cx}{pos:Pos}
def qi(i:Nat):TG:=fun v σ H Q=>Q (σ.set i (some v)) H
theorem Ig{i:Nat}{x:Str}(hN:X.N.Nodup)(hi:X.N[i]? =some x)(hx:Loc X.env.scope x)(hf:X.fn x=true\/X.env.scope.names.lookup x=some .local:=by first|exact .inl rfl|exact .inr rfl|assumption):PG X (.Name x pos) (qi i):=by
 intro pins s σ H v u Q I r h
 exact wpAny_assign_Name (tP I hN hi hx r (fun s' I'=>⟨_,H,I',h⟩) hf)
def rE(te:TE)(g:TG):TS:=fun D σ H=>te σ H fun x H1=>g x σ H1 D.nx
theorem aW{i:Nat}{x:Str}{e:Expr}{te:TE}{pos':Pos}(hN:X.N.Nodup)(hi:X.N[i]? =some x)(hx:Loc X.env.scope x)(he:PE X e te)(hs:swapsWith e (some (.Name x pos')) pos.line X.env=pure false:=by rfl)(hf:X.fn x=true\/X.env.scope.names.lookup x=some .local:=by first|exact .inl rfl|exact .inr rfl|assumption):
  PS X (.Assign [.Name x pos'] e pos) (rE te (qi i)):=by
 intro pins s σ H D I h
 refine wpAny_Assign_Name (aJ (he pins s σ H _ I h) fun v s1⟨y,H1,I1,r1,q1⟩=>?_) hs
 exact tP I1 hN hi hx r1 (fun s2 I2=>⟨_,H1,I2,q1⟩) hf
def IV(i:Nat)(te:TE)(ti:se):TS:=fun D σ H=>∃x,σ[i]? =some (some x)/\te σ H fun y H1=>ti x y H1 fun z H2=>D.nx (σ.set i (some z)) H2
theorem qz{i:Nat}{x:Str}{e:Expr}{te:TE}{op:Operator}{ti:se}{pos':Pos}(hN:X.N.Nodup)(hi:X.N[i]? =some x)(hx:Loc X.env.scope x)(he:PE X e te)(ho:AG X op ti)(hf:X.fn x=true\/X.env.scope.names.lookup x=some .local:=by first|exact .inl rfl|exact .inr rfl|assumption):
  PS X (.AugAssign (.Name x pos') op e pos) (IV i te ti):=by
 intro pins s σ H D I h
 obtain⟨v,e1,h⟩:=h
 obtain⟨m,hn,hl⟩:=I.loc
 have vis:mK X.env.scope x:=by rcases hx with k|k;exact .inl k;exact .inr (.inl k)
 obtain⟨u,r,l⟩:=hl i x v hi e1 vis
 refine wpAny_AugAssign_Name ?_
 have go:wpAny (model X.prog X.w) X.A (eval e X.env) (fun w s₂=>wpAny (model X.prog X.w) X.A (inplaceOp op u w) (fun r s₃=>wpAny (model X.prog X.w) X.A (storeName X.env x r) (fun _=>SP X pins D .next) X.xe s₃) X.xe s₂) X.xe s:=by
  refine aJ (he pins s σ H _ I h) fun w s1⟨y,H1,I1,r1,q1⟩=>?_
  refine aJ (ho pins s1 σ H1 v y u w _ I1 r r1 q1) fun z s2⟨zv,H2,I2,r2,q2⟩=>?_
  exact tP I2 hN hi hx r2 (fun s3 I3=>⟨_,H2,I3,q2⟩) hf
 rcases l with ⟨hk,hm⟩|⟨hk,c,hc,hcell⟩
 ·exact wpAny_loadName_local I.ok.kind hk hn hm go
 ·rcases hk with hk|hk
  ·exact wpAny_loadName_cell I.ok.kind hk hc hcell go
  ·rcases hx with k|k
   ·have:X.env.scope.names.lookup x=some .free:=hk
    rw[k]at this;cases this
   ·have:X.env.scope.names.lookup x=some .free:=hk
    rw[k]at this;cases this
def Ml(f:Int->Int->Int):se:=fun x y H Q=>∃i j,x=.int i/\y=.int j/\Q (.int (f i j)) H
theorem og:AG X .Add (Ml fun i j=>i+j):=by
 intro pins s σ H x y v u Q I r1 r2 h
 obtain⟨i,j,e1,e2,q⟩:=h
 subst e1;subst e2
 obtain⟨t,rfl⟩:=r1
 obtain⟨t',rfl⟩:=r2
 exact iadd_int ⟨.int _,H,I.tok _,⟨_,rfl⟩,q⟩
end
section
variable {X:Cx}{pos:Pos}
def yS(c:TT)(tb:TS):TS:=fun D σ H=>∃W:Nat->St->Hp->Prop,(∃m,W m σ H)/\∀m σ H,W m σ H->
 c σ H fun b H1=>if b=true then ∃N:St->Hp->Prop,(∀σ' H',N σ' H'->∃m',m'<m/\W m' σ' H')/\tb {D with nx:=N,ct:=N,bk:=D.nx} σ H1 else D.nx σ H1
theorem fD{c:Expr}{body:List Stmt}{tc:TT}{tb:TS}(hp:PassesOwn (model X.prog X.w) X.A X.env X.xe)(hc:PT X c tc)(hb:dI X body tb):PS X (.While c body [] pos) (yS tc tb):=by
 intro pins s σ H D I h
 obtain⟨W,⟨m0,w0⟩,turn⟩:=h
 refine wpAny_While (codeAny_whileLoop (fun n s'=>∃σ' H',Inv X pins σ' H' s'/\W n σ' H') ?_ m0 ⟨σ,H,I,w0⟩)
 rintro n s1 ⟨σ1,H1,I1,w1⟩
 refine wpAny_passesOwn hp (aJ (hc pins s1 σ1 H1 _ I1 (turn n σ1 H1 w1)) fun b s2⟨H2,I2,q2⟩=>?_)
 cases b with
 |true=>
  obtain⟨N,hN,q2⟩:=q2
  rw[if_pos rfl]
  refine wpAny_passesOwn hp (aJ (hb pins s2 σ1 H2 _ I2 q2) fun f s3 q3=>?_)
  cases f with
  |next=>
   obtain⟨σ3,H3,I3,n3⟩:=q3
   obtain⟨m',hm,w3⟩:=hN σ3 H3 n3
   exact⟨m',hm,σ3,H3,I3,w3⟩
  |cont=>
   obtain⟨σ3,H3,I3,n3⟩:=q3
   obtain⟨m',hm,w3⟩:=hN σ3 H3 n3
   exact⟨m',hm,σ3,H3,I3,w3⟩
  |brk=>exact q3
  |ret v=>exact q3
 |false=>
  rw[if_neg Bool.false_ne_true]
  exact wpAny_execs_nil ⟨σ1,H2,I2,q2⟩
end
structure It where
 go:Nat->Hp->Prop
 u7:Nat->Hp->V->Hp->Prop
 stop:Nat->Hp->Prop
def ig(X:Cx)(pins:List (Addr×Obj))(H:Hp)(b:Addr):Prop:=
 H b=none/\b≠X.env.locals/\b∉X.fs/\(b∈X.ex\/X.bX.heap.objs.size<=b)/\(∀x c,X.env.cells.lookup x=some c->c≠b)/\∀p∈X.pn++pins,p.1≠b
theorem Inv.Ba{X:Cx}{pins:List (Addr×Obj)}{σ:St}{H H':Hp}{s:Shared}{b:Addr}(I:Inv X pins σ H s)(hb:s.heap.objs.size<=b)(hn:H' b=none):ig X pins H' b:=by
 refine⟨hn,Nat.ne_of_gt (Nat.lt_of_lt_of_le I.lt hb),I.D7 hb,.inr (Nat.le_trans I.sz hb),fun x c e z=>?_,fun p hp z=>?_⟩
 ·obtain⟨v,q⟩:=I.cell x c e
  exact absurd (Nat.lt_of_lt_of_le q.lt (by rw[z];exact hb)) (Nat.lt_irrefl _)
 ·exact absurd (Nat.lt_of_lt_of_le (Heap.lt_size (I.pin p hp).1) (by rw[z];exact hb)) (Nat.lt_irrefl _)
structure Turn(P:Program)(w:World)(K:PySem.W.Frag)(tg:Expr)(J:It)(fp:List Addr)(it:Addr)(tn:Nat->Heap->Prop):Prop where
 mem:it∈fp
 obj:∀i h,tn i h->∀b∈fp,∃o,h.get? b=some o/\∀v,o.data≠ .cell v
 keep:∀i h h',tn i h->(∀b∈fp,∀o,h.get? b=some o->h'.get? b=some o)->tn i h'
 item:∀(X:Cx),X.prog=P->X.w=w->X.K=K->X.calm=true->∀(i:Nat)(pins:List (Addr×Obj))(s:Shared)(σ:St)(H:Hp)(E:Value->Shared->Prop),Inv X pins σ H s->(∀b∈fp,ig X pins H b)->tn i s.heap->J.go i H->
  wpAny (model P w) X.A (pyNext (.ref it)) (fun r s1=>∃u,r=some u/\
   wpAny (model P w) X.A (letOwnedTupleGo tg (.ref it) u) (fun _ s2=>∃x H',Inv X pins σ H' s2/\RelV x u/\J.u7 i H x H'/\tn (i+1) s2.heap/\∀b∈fp,H' b=none) E s1) E s
 done:∀(X:Cx),X.prog=P->X.w=w->X.K=K->X.calm=true->∀(i:Nat)(pins:List (Addr×Obj))(s:Shared)(σ:St)(H:Hp)(E:Value->Shared->Prop),Inv X pins σ H s->(∀b∈fp,ig X pins H b)->tn i s.heap->J.stop i H->
  wpAny (model P w) X.A (pyNext (.ref it)) (fun r s1=>r=none/\Inv X pins σ H s1) E s
 self:∀(A:Around)(i:Nat)(s:Shared)(Q:Value->Shared->Prop)(E:Value->Shared->Prop),tn i s.heap->Q (.ref it) s->wpAny (model P w) A (pyIter (.ref it)) Q E s
abbrev TI:=St->Hp->(It->Hp->Prop)->Prop
def IH(X:Cx)(pins:List (Addr×Obj))(σ:St)(tg:Expr)(R:It->Hp->Prop)(itv:Value)(s2:Shared):Prop:=
 ∃(it:Addr)(fp:List Addr)(tn:Nat->Heap->Prop)(J:It)(H':Hp),itv=.ref it/\Inv X pins σ H' s2/\Turn X.prog X.w X.K tg J fp it tn/\tn 0 s2.heap/\(∀b∈fp,ig X pins H' b)/\R J H'
def PI(X:Cx)(tg iter:Expr)(wi:TI):Prop:=
 ∀(pins:List (Addr×Obj))(s:Shared)(σ:St)(H:Hp)(R:It->Hp->Prop),Inv X pins σ H s->wi σ H R->
  wpAny (model X.prog X.w) X.A (eval iter X.env) (fun v s1=>wpAny (model X.prog X.w) X.A (pyIter v) (IH X pins σ tg R) X.xe s1) X.xe s
theorem E6{M:Model}{A:Around}{E:Value->Shared->Prop}{s:Shared}{tg:Expr}{it:Addr}{u:Value}{o:Obj}{n:String}{vs:Array Value}{Q:Unit->Shared->Prop}(ho:s.heap.get? it=some o)(hc:o.cls=.type n)(hd:o.data=.fields vs)
  (hn:["enumerate","zip","dict_itemiterator","dict_reverseitemiterator","odict_iterator","itertools.zip_longest","itertools.pairwise"].contains n=false) (hQ:Q () s):wpAny M A (letOwnedTupleGo tg (.ref it) u) Q E s:=by
 unfold letOwnedTupleGo
 cases tg<;>first
  |exact wpAny_pure hQ
  |(cases u<;>first
    |exact wpAny_pure hQ
    |(refine wpAny_bind (wpAny_load ho ?_)
      rw[hc,hd]
      show wpAny M A (if(["enumerate","zip","dict_itemiterator","dict_reverseitemiterator","odict_iterator","itertools.zip_longest","itertools.pairwise"].contains n&&vs[0]? ==some (rawInt _))=true then _ else _) Q E s
      rw[if_neg (by intro h;rw[hn,Bool.false_and]at h;cases h)]
      exact wpAny_pure hQ))
def oq(K:PySem.W.Frag)(a:Addr):It:=
 ⟨fun i H=>∃xs x,aO K H a xs/\xs[i]? =some x,fun i H x H'=>H'=H/\∀xs,aO K H a xs->xs[i]? =some x,fun i H=>∃xs,aO K H a xs/\xs.length<=i⟩
theorem Jt{P:Program}{w:World}{K:PySem.W.Frag}{tg:Expr}(a it:Addr):Turn P w K tg (oq K a) [it] it (fun i h=>h.IsListIter it a i) where
 mem:=by simp
 obj:=fun i h st b hb=>by
  have e:b=it:=by simpa using hb
  subst e
  obtain⟨o,e,c,d⟩:=st
  exact⟨o,e,fun v z=>by rw[d]at z;cases z⟩
 keep:=fun i h h' st k=>st.at fun o e=>k it (by simp) o e
 item:=by
  intro X hP hw hK hc i pins s σ H E I hf st hg
  subst hP hw hK
  obtain⟨xs,x,hq,hx⟩:=hg
  obtain⟨its,rv,p,hz⟩:=I.list hq
  obtain⟨u,hu,ru⟩:=rv.get hx
  obtain⟨f0,f1,f2,f3,f4,f5⟩:=hf it (by simp)
  refine wpAny_pyNext_list_item st p.isList (x:=u) (by simpa using hu) fun h' st' sb=>?_
  have I1:Inv X pins σ H {s with heap:=h'}:=I.turned (t':=s.toks) (fun b o hb e=>(sb.2 b hb).trans e) f0 f1 f3 f4 f5
  obtain⟨o,e,c,d⟩:=id st'
  exact⟨u,rfl,E6 (s:={s with heap:=h'}) e c d (by decide) ⟨x,H,I1,ru,⟨rfl,fun ys hy=>by rw[I.HJ hy hq];exact hx⟩,st',fun b hb=>(hf b hb).1⟩⟩
 done:=by
  intro X hP hw hK hc i pins s σ H E I hf st hg
  subst hP hw hK
  obtain⟨xs,hq,hx⟩:=hg
  obtain⟨its,rv,p,hz⟩:=I.list hq
  obtain⟨f0,f1,f2,f3,f4,f5⟩:=hf it (by simp)
  have hl:=rv.length
  exact wpAny_pyNext_list_end (I.ok.hd hc) st p.isList (by simp;omega) fun h' eb=>⟨rfl,I.turned (t':=s.toks) (fun b o hb e=>eb b o hb e) f0 f1 f3 f4 f5⟩
 self:=fun _ _ _ _ _ st h=>wpAny_pyIter_listiter st h
end L2
namespace L2
open PySem PySem.Spec PyProof.Rows
section
variable {X:Cx}{tg:Expr}
def G9(K:PySem.W.Frag)(tl:TE):TI:=fun σ H R=>tl σ H fun x H1=>∃a,x=.ref a/\(∃xs,aO K H1 a xs)/\R (oq K a) H1
theorem Hc{l:Expr}{tl:TE}(hl:PE X l tl):PI X tg l (G9 X.K tl):=by
 intro pins s σ H R I h
 refine aJ (hl pins s σ H _ I h) fun v s1⟨x,H1,I1,r1,q1⟩=>?_
 obtain⟨a,e,⟨xs,hq⟩,q⟩:=q1
 subst e
 cases r1
 obtain⟨its,rv,p,hz⟩:=I1.list hq
 refine wpAny_pyIter_list p.isList ?_
 refine⟨s1.heap.objs.size,[s1.heap.objs.size],_,_,H1,rfl,I1.kept (t':=s1.toks) fun b o e=>Heap.get?_push_of_some _ e,Jt a _,⟨_,Heap.get?_push_size _ rfl,rfl,rfl⟩,fun b hb=>?_,q⟩
 have e:b=s1.heap.objs.size:=by simpa using hb
 subst e
 exact I1.Ba (Nat.le_refl _) (I1.ax.fresh (Nat.le_refl _))
def t7(fp:List Addr)(h:Heap):List (Addr×Obj):=fp.filterMap fun b=>(h.get? b).map fun o=>(b,o)
theorem IM{fp:List Addr}{h:Heap}{b:Addr}{o:Obj}(hb:b∈fp)(e:h.get? b=some o):(b,o)∈t7 fp h:=List.mem_filterMap.mpr ⟨b,hb,by rw[e];rfl⟩
theorem FE{fp:List Addr}{h:Heap}{p:Addr×Obj}(hp:p∈t7 fp h):p.1∈fp/\h.get? p.1=some p.2:=by
 obtain⟨b,hb,e⟩:=List.mem_filterMap.mp hp
 cases q:h.get? b with
 |none=>rw[q]at e;cases e
 |some o=>
  rw[q]at e
  have e':(b,o)=p:=Option.some.inj e
  subst e'
  exact⟨hb,q⟩
theorem Inv.pinned{pins:List (Addr×Obj)}{σ:St}{H:Hp}{s:Shared}{fp:List Addr}(I:Inv X pins σ H s)(hf:∀b∈fp,ig X pins H b)(ho:∀b∈fp,∃o,s.heap.get? b=some o/\∀v,o.data≠ .cell v):Inv X (pins++t7 fp s.heap) σ H s:=
 I.A3 fun p hp=>(List.mem_append.mp hp).elim (fun z=>I.pin p (List.mem_append_right _ z)) fun z=>by
  obtain⟨hb,e⟩:=FE z
  obtain⟨f0,f1,f2,_⟩:=hf p.1 hb
  obtain⟨o,e',d⟩:=ho p.1 hb
  rw[e]at e';cases e'
  exact⟨e,f0,f1,f2,d⟩
theorem Inv.Ik{pins pl:List (Addr×Obj)}{σ:St}{H:Hp}{s:Shared}(I:Inv X (pins++pl) σ H s):Inv X pins σ H s:=I.A3 fun p hp=>I.pin p (List.mem_append_right _ (List.mem_append_left _ hp))
end
end L2
namespace L2
open PySem PySem.Spec PyProof.Rows
abbrev R2:=V->V->Hp->VK->Prop
def cN(X:Cx)(f:Value->Value->Sem Value)(r:R2):Prop:=
 ∀(pins:List (Addr×Obj))(s:Shared)(σ:St)(H:Hp)(x y:V)(v u:Value)(Q:VK),Inv X pins σ H s->RelV x v->RelV y u->r x y H Q->
  wpAny (model X.prog X.w) X.A (f v u) (EP X pins σ Q) X.xe s
def xO(X:Cx)(f:Value->Sem Value)(r:V->Hp->VK->Prop):Prop:=
 ∀(pins:List (Addr×Obj))(s:Shared)(σ:St)(H:Hp)(x:V)(v:Value)(Q:VK),Inv X pins σ H s->RelV x v->r x H Q->
  wpAny (model X.prog X.w) X.A (f v) (EP X pins σ Q) X.xe s
def gv(X:Cx)(f:Value)(r:List V->Hp->VK->Prop):Prop:=
 ∀(pins:List (Addr×Obj))(s:Shared)(σ:St)(H:Hp)(xs:List V)(us:List Value)(Q:VK),Inv X pins σ H s->aF xs us->r xs H Q->
  wpAny (model X.prog X.w) X.A (call f us) (EP X pins σ Q) X.xe s
def dP(r:R2)(ta tb:TE):TE:=fun σ H Q=>ta σ H fun x H1=>tb σ H1 fun y H2=>r x y H2 Q
def EJ(r:V->Hp->VK->Prop)(ta:TE):TE:=fun σ H Q=>ta σ H fun x H1=>r x H1 Q
def rI(C:Int->Int->Prop)(g:Int->Int->V):R2:=fun x y H Q=>∃i j,x=.int i/\y=.int j/\C i j/\Q (g i j) H
def gA(g:Int->Int->V):R2:=fun x y H Q=>∃i j,x=.int i/\y=.int j/\Q (g i j) H
def rU(g:Int->V):V->Hp->VK->Prop:=fun x H Q=>∃i,x=.int i/\Q (g i) H
section
variable {X:Cx}{a b c:Expr}{ta tb tc:TE}{pos:Pos}
theorem vI(ha:PE X a ta)(hb:PE X b tb){pins:List (Addr×Obj)}{s:Shared}{σ:St}{H:Hp}{R:V->V->Hp->Prop}(I:Inv X pins σ H s)
  (h:ta σ H fun x H1=>tb σ H1 fun y H2=>R x y H2) {Q:Value->Shared->Prop} {f:Value->Value->Sem Value}
  (hf:∀v u s2 x y H2,Inv X pins σ H2 s2->RelV x v->RelV y u->R x y H2->wpAny (model X.prog X.w) X.A (f v u) Q X.xe s2):
  wpAny (model X.prog X.w) X.A (eval a X.env) (fun v s₁=>wpAny (model X.prog X.w) X.A (eval b X.env) (fun u s₂=>wpAny (model X.prog X.w) X.A (f v u) Q X.xe s₂) X.xe s₁) X.xe s:=by
 refine aJ (ha pins s σ H _ I h) fun v s1⟨x,H1,I1,r1,q1⟩=>?_
 refine aJ (hb pins s1 σ H1 _ I1 q1) fun u s2⟨y,H2,I2,r2,q2⟩=>?_
 exact hf v u s2 x y H2 I2 r1 r2 q2
theorem fC{op:Operator}{r:R2}(ho:cN X (binaryOp op) r)(ha:PE X a ta)(hb:PE X b tb):PE X (.BinOp a op b pos) (dP r ta tb):=by
 intro pins s σ H Q I h
 exact wpAny_BinOp (vI ha hb I h fun v u s2 x y H2 I2 rx ry q=>ho pins s2 σ H2 x y v u Q I2 rx ry q)
theorem JT{op:UnaryOp}{r:V->Hp->VK->Prop}(ho:xO X (unaryOp op) r)(ha:PE X a ta):PE X (.UnaryOp op a pos) (EJ r ta):=by
 intro pins s σ H Q I h
 exact UnaryOp_ (aJ (ha pins s σ H _ I h) fun v s1⟨x,H1,I1,r1,q1⟩=>ho pins s1 σ H1 x v Q I1 r1 q1)
theorem Lj{f:Value->Value->Sem Value}{C:Int->Int->Prop}{g:Int->Int->Int}
  (rule:∀(i j:Int)(t u:Tok)(s:Shared)(Q:Value->Shared->Prop)(E:Value->Shared->Prop),C i j->Q (.int (g i j) s.toks) {s with toks:=s.toks+1}->wpAny (model X.prog X.w) X.A (f (.int i t) (.int j u)) Q E s):
  cN X f (rI C fun i j=>.int (g i j)):=by
 intro pins s σ H x y v u Q I rx ry h
 obtain⟨i,j,rfl,rfl,hc,q⟩:=h
 obtain⟨t,rfl⟩:=rx
 obtain⟨t',rfl⟩:=ry
 exact rule i j t t' s _ _ hc ⟨.int (g i j),H,I.tok _,⟨_,rfl⟩,q⟩
theorem CV{f:Value->Value->Sem Value}{g:Int->Int->Int}
  (rule:∀(i j:Int)(t u:Tok)(s:Shared)(Q:Value->Shared->Prop)(E:Value->Shared->Prop),Q (.int (g i j) s.toks) {s with toks:=s.toks+1}->wpAny (model X.prog X.w) X.A (f (.int i t) (.int j u)) Q E s):
  cN X f (gA fun i j=>.int (g i j)):=by
 intro pins s σ H x y v u Q I rx ry h
 obtain⟨i,j,rfl,rfl,q⟩:=h
 obtain⟨t,rfl⟩:=rx
 obtain⟨t',rfl⟩:=ry
 exact rule i j t t' s _ _ ⟨.int (g i j),H,I.tok _,⟨_,rfl⟩,q⟩
theorem vL{f:Value->Value->Sem Value}{g:Int->Int->Bool}
  (rule:∀(i j:Int)(t u:Tok)(s:Shared)(Q:Value->Shared->Prop)(E:Value->Shared->Prop),Q (.bool (g i j)) s->wpAny (model X.prog X.w) X.A (f (.int i t) (.int j u)) Q E s):
  cN X f (gA fun i j=>.bl (g i j)):=by
 intro pins s σ H x y v u Q I rx ry h
 obtain⟨i,j,rfl,rfl,q⟩:=h
 obtain⟨t,rfl⟩:=rx
 obtain⟨t',rfl⟩:=ry
 exact rule i j t t' s _ _ ⟨.bl (g i j),H,I,rfl,q⟩
def vW(i j:Int):Prop:=(-(2^64)<i/\i<2^64)\/(-(2^64)<j/\j<2^64)
theorem vW.ok{i j:Int}(h:vW i j):IntMulOk i j:=by
 rcases h with ⟨h1,h2⟩|⟨h1,h2⟩
 ·exact .of_left (intBits_le_64 h1 h2)
 ·exact .of_right (intBits_le_64 h1 h2)
theorem iX:cN X (binaryOp .Add) (gA fun i j=>.int (i+j)):=CV fun _ _ _ _ _ _ _ q=>add_int q
theorem vJ:cN X (binaryOp .Sub) (gA fun i j=>.int (i-j)):=CV fun _ _ _ _ _ _ _ q=>sub_int q
theorem GZ:cN X (binaryOp .Mult) (rI vW fun i j=>.int (i*j)):=Lj fun _ _ _ _ _ _ _ hc q=>mul_int q hc.ok
theorem KZ{f:Value->Sem Value}{g:Int->Int}
  (rule:∀(i:Int)(t:Tok)(s:Shared)(Q:Value->Shared->Prop)(E:Value->Shared->Prop),Q (.int (g i) s.toks) {s with toks:=s.toks+1}->wpAny (model X.prog X.w) X.A (f (.int i t)) Q E s):
  xO X f (rU fun i=>.int (g i)):=by
 intro pins s σ H x v Q I rx h
 obtain⟨i,rfl,q⟩:=h
 obtain⟨t,rfl⟩:=rx
 exact rule i t s _ _ ⟨.int (g i),H,I.tok _,⟨_,rfl⟩,q⟩
theorem Kl:xO X (unaryOp .USub) (rU fun i=>.int (-i)):=KZ fun _ _ _ _ _ q=>neg_int q
end
def AM:V->V->Bool
 | .aw,.aw=>true| .aw,.int _=>true| .int _,.aw=>true| .aw,.bl _=>true| .bl _,.aw=>true| .aw,.str _=>true| .str _,.aw=>true
 | .int _,.int _=>true| .bl _,.bl _=>true| .str _,.str _=>true| .dZ _,.dZ _=>true
 | .int _,.str _=>true| .str _,.int _=>true| .bl _,.str _=>true| .str _,.bl _=>true
 |_,_=>false
def AH:R2:=fun x y H Q=>AM x y=true/\Q (.bl (decide (x=y))) H
def EI:R2:=fun x y H Q=>AM x y=true/\Q (.bl (!decide (x=y))) H
theorem zB{i j:Int}:decide (V.int i=V.int j)=(i==j):=by
 rw[Bool.eq_iff_iff]
 simp
theorem AO{i j:Bool}:decide (V.bl i=V.bl j)=(i==j):=by
 rw[Bool.eq_iff_iff]
 simp
theorem jY{i j:Str}:decide (V.str i=V.str j)=(i==j):=by
 rw[Bool.eq_iff_iff]
 simp
theorem yV{i j:Array UInt8}:decide (V.dZ i=V.dZ j)=(i.toList==j.toList):=by
 rw[Bool.eq_iff_iff]
 cases i
 cases j
 simp
section
variable {X:Cx}{a b c:Expr}{ta tb tc:TE}{pos:Pos}
theorem b7{pins:List (Addr×Obj)}{σ:St}{H:Hp}{s:Shared}{Q:VK}{k k':Bool}(I:Inv X pins σ H s)(q:Q (.bl k) H)(e:k=k'):EP X pins σ Q (.bool k') s:=by
 subst e
 exact⟨.bl k,H,I,rfl,q⟩
theorem b9:cN X (compareOp .Eq) AH:=by
 intro pins s σ H x y v u Q I rx ry h
 obtain⟨hs,q⟩:=h
 cases x with
 |aw=>
  cases rx
  cases y with
  |aw=>cases ry;exact PySem.EqNone.eq_none_none (b7 I q (by simp))
  |bl j=>cases ry;exact PySem.EqNone.eq_none_bool (b7 I q (by simp))
  |int j=>obtain⟨t',rfl⟩:=ry;exact PySem.EqNone.eq_none_int (b7 I q (by simp))
  |str j=>obtain⟨t',rfl⟩:=ry;exact PySem.EqNone.eq_none_str (b7 I q (by simp))
  |_=>exact absurd (show false=true from hs) Bool.false_ne_true
 |bl i=>
  cases rx
  cases y with
  |aw=>cases ry;exact PySem.EqNone.eq_bool_none (b7 I q (by simp))
  |bl j=>cases ry;exact eq_bool (b7 I q AO)
  |str j=>obtain⟨t',rfl⟩:=ry;exact PySem.EqMixed.eq_bool_str (b7 I q (by simp))
  |_=>exact absurd (show false=true from hs) Bool.false_ne_true
 |int i=>
  obtain⟨t,rfl⟩:=rx
  cases y with
  |aw=>cases ry;exact PySem.EqNone.eq_int_none (b7 I q (by simp))
  |int j=>obtain⟨t',rfl⟩:=ry;exact eq_int (b7 I q zB)
  |str j=>obtain⟨t',rfl⟩:=ry;exact PySem.EqMixed.eq_int_str (b7 I q (by simp))
  |_=>exact absurd (show false=true from hs) Bool.false_ne_true
 |str i=>
  obtain⟨t,rfl⟩:=rx
  cases y with
  |aw=>cases ry;exact PySem.EqNone.eq_str_none (b7 I q (by simp))
  |bl j=>cases ry;exact PySem.EqMixed.eq_str_bool (b7 I q (by simp))
  |int j=>obtain⟨t',rfl⟩:=ry;exact PySem.EqMixed.eq_str_int (b7 I q (by simp))
  |str j=>obtain⟨t',rfl⟩:=ry;exact eq_str (b7 I q jY)
  |_=>exact absurd (show false=true from hs) Bool.false_ne_true
 |dZ i=>
  obtain⟨t,rfl⟩:=rx
  cases y with
  |dZ j=>obtain⟨t',rfl⟩:=ry;exact PySem.W.eq_bytes (b7 I q yV)
  |_=>exact absurd (show false=true from hs) Bool.false_ne_true
 |_=>cases y<;>exact absurd (show false=true from hs) Bool.false_ne_true
theorem jC:cN X (compareOp .NotEq) EI:=by
 intro pins s σ H x y v u Q I rx ry h
 obtain⟨hs,q⟩:=h
 cases x with
 |aw=>
  cases rx
  cases y with
  |aw=>cases ry;exact PySem.EqNone.ne_none_none (b7 I q (by simp))
  |bl j=>cases ry;exact PySem.EqNone.ne_none_bool (b7 I q (by simp))
  |int j=>obtain⟨t',rfl⟩:=ry;exact PySem.EqNone.ne_none_int (b7 I q (by simp))
  |str j=>obtain⟨t',rfl⟩:=ry;exact PySem.EqNone.ne_none_str (b7 I q (by simp))
  |_=>exact absurd (show false=true from hs) Bool.false_ne_true
 |bl i=>
  cases rx
  cases y with
  |aw=>cases ry;exact PySem.EqNone.ne_bool_none (b7 I q (by simp))
  |bl j=>cases ry;exact ne_bool (b7 I q (congrArg not AO))
  |str j=>obtain⟨t',rfl⟩:=ry;exact PySem.EqMixed.ne_bool_str (b7 I q (by simp))
  |_=>exact absurd (show false=true from hs) Bool.false_ne_true
 |int i=>
  obtain⟨t,rfl⟩:=rx
  cases y with
  |aw=>cases ry;exact PySem.EqNone.ne_int_none (b7 I q (by simp))
  |int j=>obtain⟨t',rfl⟩:=ry;exact ne_int (b7 I q (congrArg not zB))
  |str j=>obtain⟨t',rfl⟩:=ry;exact PySem.EqMixed.ne_int_str (b7 I q (by simp))
  |_=>exact absurd (show false=true from hs) Bool.false_ne_true
 |str i=>
  obtain⟨t,rfl⟩:=rx
  cases y with
  |aw=>cases ry;exact PySem.EqNone.ne_str_none (b7 I q (by simp))
  |bl j=>cases ry;exact PySem.EqMixed.ne_str_bool (b7 I q (by simp))
  |int j=>obtain⟨t',rfl⟩:=ry;exact PySem.EqMixed.ne_str_int (b7 I q (by simp))
  |str j=>obtain⟨t',rfl⟩:=ry;exact ne_str (b7 I q (congrArg not jY))
  |_=>exact absurd (show false=true from hs) Bool.false_ne_true
 |dZ i=>
  obtain⟨t,rfl⟩:=rx
  cases y with
  |dZ j=>obtain⟨t',rfl⟩:=ry;exact PySem.W.ne_bytes (b7 I q (congrArg not yV))
  |_=>exact absurd (show false=true from hs) Bool.false_ne_true
 |_=>cases y<;>exact absurd (show false=true from hs) Bool.false_ne_true
theorem j2:cN X (compareOp .Lt) (gA fun i j=>.bl (decide (i<j))):=vL fun _ _ _ _ _ _ _ q=>lt_int q
theorem o7:cN X (compareOp .LtE) (gA fun i j=>.bl (decide (i<=j))):=vL fun _ _ _ _ _ _ _ q=>le_int q
theorem jf:cN X (compareOp .Gt) (gA fun i j=>.bl (decide (j<i))):=vL fun _ _ _ _ _ _ _ q=>gt_int q
theorem Ez:cN X (compareOp .Is) (fun x y H Q=>y=.aw/\Q (.bl (decide (x=.aw))) H):=by
 intro pins s σ H x y v u Q I rx ry h
 obtain⟨rfl,q⟩:=h
 cases ry
 refine is_none_gen (b7 I q ?_)
 cases x<;>first
  |(cases rx;rfl)
  |(obtain⟨t,rfl⟩:=rx;rfl)
theorem cN.or{f:Value->Value->Sem Value}{r r':R2}(h:cN X f r)(h':cN X f r'):cN X f (fun x y H Q=>r x y H Q\/r' x y H Q):=by
 intro pins s σ H x y v u Q I rx ry q
 rcases q with q|q
 ·exact h pins s σ H x y v u Q I rx ry q
 ·exact h' pins s σ H x y v u Q I rx ry q
theorem aX(b:Expr){op:CmpOp}(h:op≠ .In:=by decide)(h2:op≠ .NotIn:=by decide):behindInMarks op b=false:=by
 have e1:(op==CmpOp.In)=false:=by cases op<;>first|rfl|exact absurd rfl h
 have e2:(op==CmpOp.NotIn)=false:=by cases op<;>first|rfl|exact absurd rfl h2
 cases b<;>simp[behindInMarks,e1,e2]
theorem jq{op:CmpOp}{r:R2}(ho:cN X (compareOp op) r)(ha:PE X a ta)(hb:PE X b tb)(hm:behindInMarks op b=false):PE X (.Compare a [op] [b] pos) (dP r ta tb):=by
 intro pins s σ H Q I h
 exact wpAny_Compare1 (vI ha hb I h fun v u s2 x y H2 I2 rx ry q=>ho pins s2 σ H2 x y v u Q I2 rx ry q) hm
def gS(t:TE):TT:=fun σ H Q=>t σ H fun x H'=>∃k,x=.bl k/\Q k H'
theorem a4{op:CmpOp}{r:R2}(ho:cN X (compareOp op) r)(ha:PE X a ta)(hb:PE X b tb)(hm:behindInMarks op b=false):PT X (.Compare a [op] [b] pos) (gS (dP r ta tb)):=by
 intro pins s σ H Q I h
 refine wpAny_isTrue_Compare1 (aJ (ha pins s σ H _ I h) fun v s1⟨x,H1,I1,r1,q1⟩=>aJ (hb pins s1 σ H1 _ I1 q1) fun u s2⟨y,H2,I2,r2,q2⟩=>
  aJ (ho pins s2 σ H2 x y v u _ I2 r1 r2 q2) fun c s3⟨z,H3,I3,r3,k,e,q3⟩=>?_) hm
 subst e
 cases r3
 exact wpAny_truthy_bool ⟨H3,I3,q3⟩
def Iu(r r':R2)(ta tb tc:TE):TE:=fun σ H Q=>ta σ H fun x H1=>tb σ H1 fun y H2=>r x y H2 fun z H3=>∃k,z=.bl k/\
 (if k=true then tc σ H3 fun w' H4=>r' y w' H4 Q else Q (.bl false) H3)
theorem Cv{op op':CmpOp}{r r':R2}(ho:cN X (compareOp op) r)(ho':cN X (compareOp op') r')(ha:PE X a ta)(hb:PE X b tb)(hc:PE X c tc)
  (hm:lastMarks [op,op'] [b,c]=false:=by with_unfolding_all rfl):PE X (.Compare a [op,op'] [b,c] pos) (Iu r r' ta tb tc):=by
 intro pins s σ H Q I h
 refine Compare_chain (aJ (ha pins s σ H _ I h) fun v s1⟨x,H1,I1,r1,q1⟩=>chain_link (aJ (hb pins s1 σ H1 _ I1 q1) fun u s2⟨y,H2,I2,r2,q2⟩=>
  aJ (ho pins s2 σ H2 x y v u _ I2 r1 r2 q2) fun d s3⟨z,H3,I3,r3,k,e,q3⟩=>?_)) hm
 subst e
 cases r3
 refine wpAny_truthy_bool ?_
 cases k with
 |false=>exact ite_ff ⟨.bl false,H3,I3,rfl,q3⟩
 |true=>exact ite_tt (chain_last (aJ (hc pins s3 σ H3 _ I3 q3) fun w' s4⟨z',H4,I4,r4,q4⟩=>ho' pins s4 σ H4 y z' u w' Q I4 r2 r4 q4))
theorem rM:(sizeLine:Nat)<2^63:=by rw[sizeLine_eq];decide
theorem vals1{x:V}{us:List Value}(r:aF [x] us):∃u,us=[u]/\RelV x u:=by
 cases r with
 |cons r1 r2=>cases r2;exact⟨_,rfl,r1⟩
theorem vals2{x y:V}{us:List Value}(r:aF [x,y] us):∃u w',us=[u,w']/\RelV x u/\RelV y w':=by
 cases r with
 |cons r1 r2=>
  cases r2 with
  |cons r3 r4=>cases r4;exact⟨_,_,rfl,r1,r3⟩
theorem Jj(hc:X.calm=true):gv X (.builtin "min") (fun xs H Q=>∃i j,xs=[.int i,.int j]/\Q (.int (if j<i then j else i)) H):=by
 intro pins s σ H xs us Q I r h
 obtain⟨i,j,rfl,q⟩:=h
 obtain⟨u,w',rfl,⟨t,rfl⟩,⟨t',rfl⟩⟩:=vals2 r
 refine min_two_ints (I.ok.hd hc) fun h' tk k=>⟨_,H,I.kept k,?_,q⟩
 by_cases hj:j<i
 ·rw[if_pos hj,if_pos hj];exact⟨_,rfl⟩
 ·rw[if_neg hj,if_neg hj];exact⟨_,rfl⟩
theorem Iy:gv X (.type "str") (fun xs H Q=>∃i,xs=[.int i]/\i.natAbs.log2<1920/\Q (.str (toString i)) H):=by
 intro pins s σ H xs us Q I r h
 obtain⟨i,rfl,hz,q⟩:=h
 obtain⟨u,rfl,t,rfl⟩:=vals1 r
 exact PySem.P.str_of_int hz ⟨.str _,H,I.tok _,⟨_,rfl⟩,q⟩
end
end L2
namespace L2
open PySem PySem.Spec PyProof.Rows
structure jP(h:Heap)(x dx C:Addr)(mA:Str->Option Value):Prop where
 obj:h.get? x=some (PySem.W.instObj C dx)
 ns:h.Ns1 dx mA
 ne:dx≠x
theorem Dx{h:Heap}{dx:Addr}{mA:Str->Option Value}(n:h.Ns1 dx mA):∃od,h.get? dx=some od/\∀name,PySem.W.lookIn name od=some (mA name):=by
 obtain⟨o,es,ep,ho,hd,hk,_,hm⟩:=n
 refine⟨o,ho,fun name=>?_⟩
 have e:=hm name
 unfold nsFind findBy at e
 rw[<-Array.find?_toList]at e
 unfold PySem.W.lookIn
 rw[hd]
 dsimp only
 split
 ·rename_i y q
  rw[q]at e
  exact congrArg some e
 ·rename_i q
  rw[q]at e
  have a:es.toList.any (·.refKey)=false:=by
   rw[List.any_eq_false]
   intro y hy
   obtain⟨z,t,hkey⟩:=hk y (Array.mem_toList_iff.mp hy)
   simp[DictEntry.refKey,hkey]
  have a':¬es.toList.any (·.refKey)=true:=by rw[a];exact Bool.false_ne_true
  rw[if_neg a']
  exact congrArg some e
theorem jP.look{h:Heap}{x dx C:Addr}{mA:Str->Option Value}(I:jP h x dx C mA):∃od,PySem.W.InstAt h x (PySem.W.instObj C dx) C (some od)/\∀name,PySem.W.lookIn name od=some (mA name):=
 let⟨od,ho,hl⟩:=Dx I.ns
 ⟨od,⟨I.obj,rfl,rfl,ho⟩,hl⟩
section
variable {prog:Program}{w:World}{A:Around}{E:Value->Shared->Prop}{s:Shared}{K:PySem.W.Frag}{x dx C f:Addr}{mA:Str->Option Value}{name:Str}{v:Value}
theorem get_map{expr:Bool}{Q:Value->Shared->Prop}(X:K.In s.heap)(I:jP s.heap x dx C mA)(hg:PySem.W.plainGet K C name=true)(hh:PySem.W.hasDictIn K C=true)
  (ha:PySem.W.findIn K (.ref C) name=some none) (hv:mA name=some v) (hv':PySem.W.handedIn v=true) (h:Q v {s with toks:=s.toks+1}):
  wpAny (model prog w) A (getAttr (.ref x) name expr) Q E s:=by
 obtain⟨od,J,hl⟩:=I.look
 exact PySem.W.get_value X J (PySem.W.plainGet_of hg).1 (PySem.W.findObj_own hh ha rfl (by rw[hl,hv])) hv' h
theorem Ih{pl:Sem Bool}{Q:Value×List Value->Shared->Prop}(X:K.In s.heap)(I:jP s.heap x dx C mA)(hg:PySem.W.plainGet K C name=true)
  (hf:PySem.W.findIn K (.ref C) name=some (some (.ref f))) (ht:PySem.W.isFn K (.ref f)=true) (hv:mA name=none) (h:Q (.ref f,[.ref x]) s):
  wpAny (model prog w) A (getMethod (.ref x) name pl) Q E s:=by
 obtain⟨od,J,hl⟩:=I.look
 exact PySem.W.method_fn X J (PySem.W.plainGet_of hg).1 (PySem.W.plainGet_of hg).2 hf (beq_iff_eq.mp ht) (by show(PySem.W.lookIn name od).map (·.isSome)=some false;rw[hl,hv];rfl) h
theorem HE{ns:List Str}{Q:Unit->Shared->Prop}(X:K.In s.heap)(I:jP s.heap x dx C mA)
  (hs:PySem.W.findIn K (.ref C) "__setattr__"=some (some (.builtin "object.__setattr__"))) (hp:PySem.W.plainOver K C=true) (ht:PySem.W.takerIn K C name=some none) (hh:PySem.W.hasDictIn K C=true)
  (hw:PySem.Within mA ns) (hsz:ns.length<=sizeLine)
  (h:∀h',jP h' x dx C (fun y=>if y=name then some v else mA y)->Heap.SameBut dx s.heap h'->Q () {s with heap:=h',toks:=s.toks+2}):
  wpAny (model prog w) A (setAttr (.ref x) name v) Q E s:=by
 obtain⟨od,J,hl⟩:=I.look
 refine PySem.W.set_plain X J hs (PySem.W.osa_open (s:={s with toks:=s.toks+1}) (r:=none) X J hp ht fun b=>?_)
 obtain⟨cd,hc,hd'⟩:=PySem.W.any_some hh
 have hx:s.heap.get? x=some ⟨.ref C,some dx,.plain,#[]⟩:=I.obj
 refine wpAny_bind (wpAny_pure (wpAny_bind (wpAny_bind (wpAny_loadPart hx (wpAny_bind (PySem.W.Looks.here (s:={s with toks:=s.toks+1}) (PySem.W.looks_clsIn X hc) ?_))))))
 rw[hd']
 refine wpAny_pure (a:=some dx) (wpAny_bind (wpAny_pure (wpAny_bind ?_)))
 refine wpAny_nsSet1 (s:={s with toks:=s.toks+1}) I.ns fun h' hn2 hs2=>?_
 obtain⟨oD,esD,epD,hoD,hdD,hcD⟩:=hn2.count (PySem.Within.cons name v hw)
 refine wpAny_bind (wpAny_lookBehind hoD (by rw[hdD];exact pastItsLine_dict (Nat.le_trans hcD (by rw[List.length_cons];omega))) ?_)
 exact wpAny_pure (h _ ⟨(hs2.2 _ (Ne.symm I.ne)).trans I.obj,hn2,I.ne⟩ hs2)
theorem IC{R:Result->Shared->Prop}{vs:List Value}{kw:List (Str×Value)}(X:K.In s.heap)(hm:PySem.W.makesIn K C=true)
  (hi:PySem.W.findIn K (.ref C) "__init__"=some (some (.ref f))) (hf:PySem.W.typeIn K (.ref f)=some (.type "function"))
  (h:codeAny (model prog w) (A.under (.builtin "type.__call__" ⟨.ref C::vs,kw⟩)) (.call (.ref f) ⟨.ref (s.heap.objs.size+1)::vs,kw⟩) (PySem.W.InitBack (s.heap.objs.size+1) R)
   {s with heap:=(s.heap.push PySem.W.emptyDict).push (PySem.W.instObj C s.heap.objs.size)}):
  codeAny (model prog w) A (.call (.ref C) ⟨vs,kw⟩) R s:=by
 obtain⟨hh,g,d,t,os⟩:=s
 exact PySem.W.make_core (PySem.W.makes_of X hm) (PySem.W.looks_findIn X hi) (fun self=>PySem.W.bind_fn X self hf) (.inl rfl) h
end
def cn(f:Str)(v:V):List (Str×V)->List (Str×V)
 |[]=>[(f,v)]
 |(g,x)::r=>if g=f then(g,v)::r else(g,x)::cn f v r
theorem oi(f g:Str)(v:V):∀fs:List (Str×V),(cn f v fs).lookup g=if g=f then some v else fs.lookup g
 |[]=>by
  show List.lookup g [(f,v)]=_
  by_cases h:g=f
  ·have hb:(g==f)=true:=beq_iff_eq.mpr h
   simp only[List.lookup,hb,if_pos h]
  ·have hb:(g==f)=false:=beq_eq_false_iff_ne.mpr h
   simp only[List.lookup,hb,if_neg h]
 |(k,x)::r=>by
  have ih:=oi f g v r
  rw[show cn f v ((k,x)::r)=(if k=f then(k,v)::r else(k,x)::cn f v r)from rfl]
  by_cases hk:k=f
  ·rw[if_pos hk]
   by_cases h:g=k
   ·have hb:(g==k)=true:=beq_iff_eq.mpr h
    simp only[List.lookup,hb,if_pos (h.trans hk)]
   ·have hb:(g==k)=false:=beq_eq_false_iff_ne.mpr h
    simp only[List.lookup,hb,if_neg (fun e:g=f=>h (e.trans hk.symm))]
  ·rw[if_neg hk]
   by_cases h:g=k
   ·have hb:(g==k)=true:=beq_iff_eq.mpr h
    simp only[List.lookup,hb,if_neg (fun e:g=f=>hk (h.symm.trans e))]
   ·have hb:(g==k)=false:=beq_eq_false_iff_ne.mpr h
    simp only[List.lookup,hb]
    exact ih
theorem qd(f:Str)(v:V):∀fs:List (Str×V),f∈(cn f v fs).map (·.1)/\∀g,g∈fs.map (·.1)->g∈(cn f v fs).map (·.1)
 |[]=>⟨by simp[cn],fun g h=>by simp at h⟩
 |(k,x)::r=>by
  obtain⟨i1,i2⟩:=qd f v r
  rw[show cn f v ((k,x)::r)=(if k=f then(k,v)::r else(k,x)::cn f v r)from rfl]
  by_cases hk:k=f
  ·rw[if_pos hk]
   subst hk
   exact⟨by simp,fun g h=>by simpa using h⟩
  ·rw[if_neg hk]
   refine⟨?_,fun g h=>?_⟩
   ·rw[List.map_cons]
    exact List.mem_cons_of_mem _ i1
   ·rw[List.map_cons]at h ⊢
    rcases List.mem_cons.mp h with e|e
    ·exact List.mem_cons.mpr (.inl e)
    ·exact List.mem_cons_of_mem _ (i2 g e)
theorem vp(f:Str)(v:V):∀fs:List (Str×V),(cn f v fs).length<=fs.length+1
 |[]=>by simp[cn]
 |(k,x)::r=>by
  have ih:=vp f v r
  rw[show cn f v ((k,x)::r)=(if k=f then(k,v)::r else(k,x)::cn f v r)from rfl]
  by_cases hk:k=f
  ·rw[if_pos hk,List.length_cons,List.length_cons];omega
  ·rw[if_neg hk,List.length_cons,List.length_cons];omega
theorem cW.some_of{v:V}{o:Option Value}(r:cW (some v) o):∃u,o=some u/\RelV v u:=by
 cases o with
 |none=>exact(show False from r).elim
 |some u=>exact⟨u,rfl,r⟩
theorem cW.none_of{o:Option Value}(r:cW none o):o=none:=by
 cases o with
 |none=>rfl
 |some u=>exact(show False from r).elim
theorem Cs{v:V}{u:Value}(r:RelV v u):PySem.W.handedIn u=true:=by
 cases v with
 |aw=>cases (show u=Value.none from r);rfl
 |bl b=>cases (show u=Value.bool b from r);rfl
 |int i=>obtain⟨t,e⟩:=(show ∃t,u=Value.int i t from r);cases e;rfl
 |str x=>obtain⟨t,e⟩:=(show ∃t,u=Value.str x t from r);cases e;rfl
 |dZ b=>obtain⟨t,e⟩:=(show ∃t,u=Value.bytes b t from r);cases e;rfl
 |jR b=>obtain⟨t,e⟩:=(show ∃t,u=Value.float b t from r);cases e;rfl
 |ref a=>cases (show u=Value.ref a from r);rfl
 |ty n=>cases (show u=Value.type n from r);rfl
section
variable {P:Program}{w:World}{H H':Hp}{h h':Heap}{a C dx:Addr}{fs fs':List (Str×V)}
theorem tH(ax:bz P w H h)(e:H a=some (.ins C dx fs)):∃mA,jP h a dx C mA/\(∀f,cW (fs.lookup f) (mA f))/\PySem.Within mA (fs.map (·.1))/\fs.length<=1000/\H dx=some (.own a):=by
 obtain⟨d,z,ne,ob,mA,n,r,q⟩:=(show cf P w H h a (.ins C dx fs)from ax a _ e)
 exact⟨mA,⟨ob,n,ne⟩,r,q,z,d⟩
end
structure fV(K:PySem.W.Frag)(C:Addr):Prop where
 pg:PySem.W.plainGet K C Str.empty=true
 hd:PySem.W.hasDictIn K C=true
 po:PySem.W.plainOver K C=true
 sa:PySem.W.findIn K (.ref C) "__setattr__"=some (some (.builtin "object.__setattr__"))
theorem fV.get{K:PySem.W.Frag}{C:Addr}(c:fV K C)(f:Str):PySem.W.plainGet K C f=true:=c.pg
def bw(K:PySem.W.Frag)(C:Addr)(f:Str):Prop:=PySem.W.findIn K (.ref C) f=some none
theorem bw.MM{K:PySem.W.Frag}{C:Addr}{f:Str}(n:bw K C f):PySem.W.takerIn K C f=some none:=by
 unfold PySem.W.takerIn
 rw[show PySem.W.findIn K (.ref C) f=some none from n]
 rfl
structure so(K:PySem.W.Frag)(C:Addr)(m:Str)(f:Addr):Prop where
 at_:PySem.W.findIn K (.ref C) m=some (some (.ref f))
 fn:PySem.W.isFn K (.ref f)=true
 kp:PySem.W.keepIn K (.ref f)=true
section
variable {X:Cx}{pins:List (Addr×Obj)}{σ:St}{H:Hp}{s:Shared}{a C dx:Addr}{fs:List (Str×V)}{f:Str}{v:V}{A:Around}{E:Value->Shared->Prop}
theorem Ak{b:Bool}{Q:Value->Shared->Prop}(I:Inv X pins σ H s)(e:H a=some (.ins C dx fs))(c:fV X.K C)(n:bw X.K C f)(l:fs.lookup f=some v)
  (h:∀u s',Inv X pins σ H s'->RelV v u->Q u s'):wpAny (model X.prog X.w) A (getAttr (.ref a) f b) Q E s:=by
 obtain⟨mA,O,r,_,_,_⟩:=tH I.ax e
 obtain⟨u,hu,ru⟩:=cW.some_of (v:=v) (o:=mA f) (by rw[<-l];exact r f)
 exact get_map I.bh O (c.get f) c.hd n hu (Cs ru) (h u _ (I.tok _) ru)
theorem BO{m:Str}{g:Addr}{pl:Sem Bool}{Q:Value×List Value->Shared->Prop}(I:Inv X pins σ H s)(e:H a=some (.ins C dx fs))(c:fV X.K C)(k:so X.K C m g)(l:fs.lookup m=none)
  (h:Q (.ref g,[.ref a]) s):wpAny (model X.prog X.w) A (getMethod (.ref a) m pl) Q E s:=by
 obtain⟨mA,O,r,_,_,_⟩:=tH I.ax e
 have hn:mA m=none:=cW.none_of (by rw[<-l];exact r m)
 exact Ih I.bh O (c.get m) k.at_ k.fn hn h
theorem Ae{y:V}{u:Value}{Q:Unit->Shared->Prop}(I:Inv X pins σ H s)(e:H a=some (.ins C dx fs))(c:fV X.K C)(n:bw X.K C f)(hl:fs.length<1000)(ry:RelV y u)
  (h:∀s',Inv X pins σ (upd H a (.ins C dx (cn f y fs))) s'->Q () s'):wpAny (model X.prog X.w) A (setAttr (.ref a) f u) Q E s:=by
 obtain⟨mA,O,r,wi,_,ho⟩:=tH I.ax e
 have hz:(fs.map (·.1)).length<=sizeLine:=by rw[List.length_map,sizeLine_eq];omega
 refine HE I.bh O c.sa c.po n.MM c.hd wi hz fun h' O' sb=>h _ ?_
 have hd:∃o,h'.get? dx=some o:=let⟨o,_,_,e',_⟩:=O'.ns;⟨o,e'⟩
 refine I.write (x:=a) (e:=dx) (by rw[e];exact True.intro) (.inr ho) (fun b q hb z=>(sb.2 b hb).trans z) hd ?_
 refine⟨by rw[ao O.ne];exact ho,?_,O.ne,O'.obj,_,O'.ns,fun g=>?_,fun g hg=>?_⟩
 ·have:=vp f y fs;omega
 ·show cW ((cn f y fs).lookup g) (if g=f then some u else mA g)
  rw[oi]
  by_cases q:g=f
  ·rw[if_pos q,if_pos q];exact ry
  ·rw[if_neg q,if_neg q];exact r g
 ·by_cases q:g=f
  ·rw[q];exact(qd f y fs).1
  ·refine(qd f y fs).2 g (wi g fun z=>hg ?_)
   show(if g=f then some u else mA g)=none
   rw[if_neg q];exact z
theorem Inv.made(I:Inv X pins σ H s):Inv X pins σ (upd (upd H s.heap.objs.size (.own (s.heap.objs.size+1))) (s.heap.objs.size+1) (.ins C s.heap.objs.size []))
  {s with heap:=(s.heap.push PySem.W.emptyDict).push (PySem.W.instObj C s.heap.objs.size)}:=by
 have e1:(s.heap.push PySem.W.emptyDict).get? s.heap.objs.size=some PySem.W.emptyDict:=Heap.get?_push_size s.heap rfl
 have e2:((s.heap.push PySem.W.emptyDict).push (PySem.W.instObj C s.heap.objs.size)).get? (s.heap.objs.size+1)=some (PySem.W.instObj C s.heap.objs.size):=by
  have:=Heap.get?_push_size (s.heap.push PySem.W.emptyDict) (o:=PySem.W.instObj C s.heap.objs.size) rfl
  rwa [Heap.size_push]at this
 have e3:(s.heap.push PySem.W.emptyDict).Ns s.heap.objs.size (fun _=>none):=⟨PySem.W.emptyDict,#[],_,e1,rfl,(fun e he=>absurd he (by simp)),fun _=>rfl⟩
 have I1:=I.laid (a:=s.heap.objs.size) (o:=.own (s.heap.objs.size+1)) (h':=s.heap.push PySem.W.emptyDict) (t':=s.toks) (fun b u q=>Heap.get?_push_of_some _ q) (Nat.le_refl _) ⟨_,e1⟩
 refine I1.laid (a:=s.heap.objs.size+1) (o:=.ins C s.heap.objs.size []) (t':=s.toks) (fun b u q=>Heap.get?_push_of_some _ q) (Nat.le_of_eq (Heap.size_push _ _)) ?_
 have ne:s.heap.objs.size≠s.heap.objs.size+1:=Nat.ne_of_lt (Nat.lt_succ_self _)
 refine⟨by rw[ao ne,az],Nat.zero_le _,ne,e2,fun _=>none,(Heap.Ns1.of_empty e3).at fun o q=>Heap.get?_push_of_some _ q,fun _=>True.intro,fun y hy=>absurd rfl hy⟩
theorem CJ{prog:Program}{w:World}{env:Env}{e:Expr}{f:Str}{pos:Pos}{s:Shared}{Q:Value->Shared->Prop}(hb:attributeBase e f env (eval e env)=eval e env)
  (h:wpAny (model prog w) A (eval e env) (fun o s₁=>wpAny (model prog w) A (getAttr o f true) Q E s₁) E s):wpAny (model prog w) A (eval (.Attribute e f pos) env) Q E s:=
 Attribute_any_ h (by rw[arm_eval_Attribute,hb])
end
def mw(K:PySem.W.Frag)(ta:TE)(f:Str):TE:=fun σ H Q=>ta σ H fun x H1=>∃a C dx fs v,x=.ref a/\H1 a=some (.ins C dx fs)/\fV K C/\bw K C f/\fs.lookup f=some v/\Q v H1
def KD(K:PySem.W.Frag)(ta tv:TE)(f:Str):TS:=fun D σ H=>tv σ H fun y H1=>ta σ H1 fun x H2=>∃a C dx fs,x=.ref a/\H2 a=some (.ins C dx fs)/\fV K C/\bw K C f/\fs.length<1000/\
 D.nx σ (upd H2 a (.ins C dx (cn f y fs)))
def vU(X:Cx)(op:Operator)(rd:V->V->Hp->VK->Prop):Prop:=
 ∀(pins:List (Addr×Obj))(s:Shared)(σ:St)(H:Hp)(x y:V)(u v:Value)(Q:VK),Inv X pins σ H s->RelV x u->RelV y v->rd x y H Q->wpAny (model X.prog X.w) X.A (inplaceOp op u v) (EP X pins σ Q) X.xe s
def KY(K:PySem.W.Frag)(ta tv:TE)(rd:V->V->Hp->VK->Prop)(f:Str):TS:=fun D σ H=>ta σ H fun x H1=>∃a C dx fs v,x=.ref a/\H1 a=some (.ins C dx fs)/\fV K C/\bw K C f/\fs.lookup f=some v/\
 tv σ H1 fun y H2=>rd v y H2 fun z H3=>∃dx' fs',H3 a=some (.ins C dx' fs')/\fs'.length<1000/\D.nx σ (upd H3 a (.ins C dx' (cn f z fs')))
section
variable {X:Cx}{o e value:Expr}{f:Str}{pos pos' tpos:Pos}{ta tv:TE}
theorem aH(he:PE X e ta)(hb:attributeBase e f X.env (eval e X.env)=eval e X.env):PE X (.Attribute e f pos) (mw X.K ta f):=by
 intro pins s σ H Q I h
 refine CJ hb (aJ (he pins s σ H _ I h) fun u s1⟨x,H1,I1,rx,a,C,dx,fs,v,ex,ea,c,n,l,q⟩=>?_)
 subst ex
 obtain rfl:u=Value.ref a:=rx
 exact Ak I1 ea c n l fun u' s2 I2 ru=>⟨v,H1,I2,ru,q⟩
theorem cU(ha:PE X o ta)(hv:PE X value tv)(hs:swapsWith value (some (.Attribute o f pos')) pos.line X.env=pure false):PS X (.Assign [.Attribute o f pos'] value pos) (KD X.K ta tv f):=by
 intro pins s σ H D I h
 refine plainObj_wpAny_Assign_Attribute (aJ (hv pins s σ H _ I h) fun u s1⟨y,H1,I1,ry,q⟩=>aJ (ha pins s1 σ H1 _ I1 q) fun ov s2⟨x,H2,I2,rx,a,C,dx,fs,ex,ea,c,n,l,q2⟩=>?_) hs
 subst ex
 obtain rfl:ov=Value.ref a:=rx
 exact Ae I2 ea c n l ry fun s3 I3=>⟨σ,_,I3,q2⟩
theorem Bs{op:Operator}{rd:V->V->Hp->VK->Prop}(ha:PE X o ta)(hv:PE X value tv)(hop:vU X op rd):PS X (.AugAssign (.Attribute o f tpos) op value pos) (KY X.K ta tv rd f):=by
 intro pins s σ H D I h
 refine wpAny_AugAssign_AttributeAny (aJ (ha pins s σ H _ I h) fun ov s1⟨x,H1,I1,rx,a,C,dx,fs,v,ex,ea,c,n,l,q⟩=>?_)
 subst ex
 obtain rfl:ov=Value.ref a:=rx
 refine Ak I1 ea c n l fun u s2 I2 ru=>aJ (hv pins s2 σ H1 _ I2 q) fun w3 s3⟨y,H2,I3,ry,q3⟩=>aJ (hop pins s3 σ H2 v y u w3 _ I3 ru ry q3) fun w4 s4⟨z,H3,I4,rz,dx',fs',ea',l',q4⟩=>?_
 exact Ae I4 ea' c n l' rz fun s5 I5=>⟨σ,_,I5,q4⟩
def Io:V->V->Hp->VK->Prop:=fun x y H Q=>∃i j,x=.int i/\y=.int j/\Q (.int (i+j)) H
def I0:V->V->Hp->VK->Prop:=fun x y H Q=>∃i j,x=.int i/\y=.int j/\Q (.int (i-j)) H
theorem LB:vU X .Add Io:=by
 rintro pins s σ H x y u v Q I rx ry ⟨i,j,rfl,rfl,q⟩
 obtain⟨t,rfl⟩:=(show ∃t,u=Value.int i t from rx)
 obtain⟨t',rfl⟩:=(show ∃t',v=Value.int j t' from ry)
 exact PyProof.Rows.iadd_int ⟨.int (i+j),H,I.tok _,⟨_,rfl⟩,q⟩
theorem LZ:vU X .Sub I0:=by
 rintro pins s σ H x y u v Q I rx ry ⟨i,j,rfl,rfl,q⟩
 obtain⟨t,rfl⟩:=(show ∃t,u=Value.int i t from rx)
 obtain⟨t',rfl⟩:=(show ∃t',v=Value.int j t' from ry)
 exact PyProof.Rows.isub_int ⟨.int (i-j),H,I.tok _,⟨_,rfl⟩,q⟩
end
section
variable {X:Cx}{pins:List (Addr×Obj)}{σ:St}{H:Hp}{s:Shared}{A:Around}{E:Value->Shared->Prop}{Q:Value->Shared->Prop}{c:Value}{b:Bool}
inductive eO(K:PySem.W.Frag)(H:Hp):V->Value->Prop where
 |aw:eO K H .aw (.type "NoneType")
 |bl (x:Bool):eO K H (.bl x) (.type "bool")
 |int (i:Int):eO K H (.int i) (.type "int")
 |str (x:Str):eO K H (.str x) (.type "str")
 |jR (x:UInt64):eO K H (.jR x) (.type "float")
 |lst {a:Addr} {xs:List V} (e:H a=some (.lst xs)):eO K H (.ref a) (.type "list")
 |cT {a:Addr} {o:Obj} {xs:List V} (e:H a=some (.cT o (.lst xs))):eO K H (.ref a) (.type "list")
 |tup {a:Addr} {xs:List V} (e:H a=some (.tup xs)):eO K H (.ref a) (.type "tuple")
 |dK {a:Addr} {kvs:List (Key×V)} (e:H a=some (.dK kvs)):eO K H (.ref a) (.type "dict")
 |dT {a:Addr} {kvs:List (List Key×V)} (e:H a=some (.dT kvs)):eO K H (.ref a) (.type "dict")
 |ins {a C dx:Addr} {fs:List (Str×V)} (e:H a=some (.ins C dx fs)) (cl:fV K C) (ha:PySem.W.findIn K (.ref C) "__class__"=some (some (.builtin "object.__class__")))
   (hn:PySem.W.specialIn K (.builtin "object.__class__") "__get__"=some (some (.builtin "getset_descriptor.__get__"))) (htk:PySem.W.takesIn K (.builtin "object.__class__")=some true)
   (hm:PySem.W.mroIn K C (.type "object")=some true):eO K H (.ref a) (.ref C)
theorem Lq{x:V}{u t:Value}(I:Inv X pins σ H s)(rx:RelV x u)(ty:eO X.K H x t)(e:PySem.W.kitOne X.K t c=some b)(h:∀tk,Q (.bool b) {s with toks:=tk}):
  wpAny (model X.prog X.w) A (call (.builtin "isinstance") [u,c]) Q E s:=by
 cases ty with
 |aw=>cases (show u=Value.none from rx);exact PySem.W.kia_one PySem.W.kitx_none I.bh True.intro e (fun z=>nomatch z) h
 |bl y=>cases (show u=Value.bool y from rx);exact PySem.W.kia_one PySem.W.kitx_bool I.bh True.intro e (fun z=>nomatch z) h
 |int i=>obtain⟨t,q⟩:=(show ∃t,u=Value.int i t from rx);cases q;exact PySem.W.kia_one PySem.W.kitx_int I.bh True.intro e (fun z=>nomatch z) h
 |str y=>obtain⟨t,q⟩:=(show ∃t,u=Value.str y t from rx);cases q;exact PySem.W.kia_one PySem.W.kitx_str I.bh True.intro e (fun z=>nomatch z) h
 |jR y=>obtain⟨t,q⟩:=(show ∃t,u=Value.float y t from rx);cases q;exact PySem.W.kia_one PySem.W.kitx_float I.bh True.intro e (fun z=>nomatch z) h
 | @lst a xs ea=>
  cases (show u=Value.ref a from rx)
  obtain⟨_,_,n,_,h1⟩:=(show cf X.prog X.w H s.heap a (.lst xs)from I.ax a _ ea)
  exact PySem.W.kia_one PySem.W.kitx_list I.bh ⟨_,h1,rfl⟩ e (fun z=>nomatch z) h
 | @cT a ob xs ea=>
  cases (show u=Value.ref a from rx)
  obtain⟨_,_,_,n,_,h1⟩:=(show cf X.prog X.w H s.heap a (.cT ob (.lst xs))from I.ax a _ ea)
  exact PySem.W.kia_one PySem.W.kitx_list I.bh ⟨_,h1,rfl⟩ e (fun z=>nomatch z) h
 | @tup a xs ea=>
  cases (show u=Value.ref a from rx)
  obtain⟨_,_,_,p⟩:=(show cf X.prog X.w H s.heap a (.tup xs)from I.ax a _ ea)
  obtain⟨o,h1,h2,_⟩:=p
  exact PySem.W.kia_one PySem.W.kitx_tuple I.bh ⟨o,h1,h2⟩ e (fun z=>nomatch z) h
 | @dK a kvs ea=>
  cases (show u=Value.ref a from rx)
  obtain⟨_,_,vs,_,p⟩:=(show cf X.prog X.w H s.heap a (.dK kvs)from I.ax a _ ea)
  obtain⟨o,es,ep,h1,h2,_⟩:=p
  exact PySem.W.kia_one PySem.W.kitx_dict I.bh ⟨o,h1,h2.1⟩ e (fun z=>nomatch z) h
 | @dT a kvs ea=>
  cases (show u=Value.ref a from rx)
  obtain⟨_,_,xs,_,o,es,ep,h1,h2,_⟩:=(show cf X.prog X.w H s.heap a (.dT kvs)from I.ax a _ ea)
  exact PySem.W.kia_one PySem.W.kitx_dict I.bh ⟨o,h1,h2.1⟩ e (fun z=>nomatch z) h
 | @ins a C dx fs ea cl ha hn htk hm=>
  cases (show u=Value.ref a from rx)
  obtain⟨mA,O,_⟩:=tH I.ax ea
  obtain⟨od,J,_⟩:=O.look
  exact PySem.W.kia_one (PySem.W.kitx_own (cl.get _) cl.hd ha hn htk hm) I.bh J e (fun z=>nomatch z) h
end
end L2
namespace L2
open PySem PySem.Spec PyProof.Rows
structure bp(k:Nat)(A:Around):Prop where
 hd:A.handled=none
 dp:A.depth+3*k+5<recursionLimit
 un:A.units+16*k+200<cLine
theorem bp.mono{j k:Nat}{A:Around}(r:bp k A)(h:j<=k):bp j A:=⟨r.hd,by have:=r.dp;omega,by have:=r.un;omega⟩
theorem bp.deeper{k:Nat}{A:Around}(r:bp (k+1) A)(env:Env):bp k (A.deeper env):=
 ⟨r.hd,by have:=r.dp;show A.depth+1+3*k+5<_;omega,by have:=r.un;show A.units+3+16*k+200<_;omega⟩
theorem bp.in1{k:Nat}{A:Around}(r:bp (k+1) A):bp k A.in1:=
 ⟨r.hd,by have:=r.dp;show A.depth+3*k+5<_;omega,by have:=r.un;show A.units+1+16*k+200<_;omega⟩
theorem JL{A:Around}{C:Addr}{us:List Value}{kw:List (Str×Value)}:(A.under (.builtin "type.__call__" ⟨.ref C::us,kw⟩)).depth=A.depth+1:=by
 first|rfl|simp[Around.under,Code.weight,Code.isCreation,Code.isGuard,Code.isCaller,Code.frames,Code.isFrame,guardIds]
theorem HL{A:Around}{C:Addr}{us:List Value}{kw:List (Str×Value)}:(A.under (.builtin "type.__call__" ⟨.ref C::us,kw⟩)).units=A.units+1:=by
 first|rfl|simp[Around.under,Code.cUnits,Code.frames,Code.isFrame]
theorem bp.make{k:Nat}{A:Around}(r:bp (k+1) A)(C:Addr)(us:List Value)(kw:List (Str×Value)):bp k (A.under (.builtin "type.__call__" ⟨.ref C::us,kw⟩)):=
 ⟨r.hd,by have:=r.dp;rw[JL];omega,by have:=r.un;rw[HL];omega⟩
theorem bp.depth{k:Nat}{A:Around}(r:bp k A):A.depth<recursionLimit:=by have:=r.dp;omega
theorem bp.units{k:Nat}{A:Around}(r:bp k A):A.units+64<cLine:=by have:=r.un;omega
def d9:TA:=fun _ H Q=>Q [] H
def bO(ta:TE)(tr:TA):TA:=fun σ H Q=>ta σ H fun x H1=>tr σ H1 fun xs H2=>Q (x::xs) H2
section
variable {X:Cx}{e:Expr}{es:List Expr}{te:TE}{t:TA}{pos:Pos}
theorem ag:PA X [] d9:=fun _ _ _ _ H Q I h=>Calls.spliced_nil ⟨[],H,I,.nil,h⟩
theorem ae(ha:PE X e te)(hr:PA X es t)(hs:starEach (e::es) X.env=(false,eval e X.env)::starEach es X.env:=by rfl):PA X (e::es) (bO te t):=by
 intro pos pins s σ H Q I h
 rw[hs]
 show wpAny _ _ (spliced ((false,eval e X.env)::backTo pos (starEach es X.env))) _ _ s
 refine Calls.spliced_cons (aJ (ha pins s σ H _ I h) fun u s1⟨x,H1,I1,r1,q1⟩=>?_)
 exact aJ (hr pos pins s1 σ H1 _ I1 q1) fun us s2⟨xs,H2,I2,r2,q2⟩=>⟨x::xs,H2,I2,.cons r1 r2,q2⟩
def AV(t:TA):TE:=fun σ H Q=>t σ H fun xs H1=>xs.length<=sizeLine/\∀p,H1 p=none->Q (.ref p) (upd H1 p (.tup xs))
def ES(t:TA):TE:=fun σ H Q=>t σ H fun xs H1=>xs.length<=sizeLine/\∀p,H1 p=none->Q (.ref p) (upd H1 p (.lst xs))
theorem jT{x1}(h:PA X es t):PE X (.Tuple es x1 pos) (AV t):=by
 intro pins s σ H Q I hq
 refine wpAny_Tuple_spliced (aJ (h pos pins s σ H _ I hq) fun us s1⟨xs,H1,I1,r,z,q⟩=>⟨by rw[<-r.length];exact z,?_⟩)
 have hf:H1 s1.heap.objs.size=none:=I1.ax.fresh (Nat.le_refl _)
 refine⟨.ref s1.heap.objs.size,upd H1 s1.heap.objs.size (.tup xs),I1.laid (t':=s1.toks) (fun b u e=>Heap.get?_push_of_some _ e) (Nat.le_refl _) ?_,rfl,q _ hf⟩
 exact⟨z,us,r,⟨_,Heap.get?_push_size _ rfl,rfl,_,rfl⟩⟩
theorem bK(h:PA X es t):PE X (.List es pos) (ES t):=by
 intro pins s σ H Q I hq
 refine wpAny_List_spliced (aJ (h pos pins s σ H _ I hq) fun us s1⟨xs,H1,I1,r,z,q⟩=>⟨by rw[<-r.length];exact z,?_⟩)
 have hf:H1 s1.heap.objs.size=none:=I1.ax.fresh (Nat.le_refl _)
 refine⟨.ref s1.heap.objs.size,upd H1 s1.heap.objs.size (.lst xs),I1.laid (t':=s1.toks) (fun b u e=>Heap.get?_push_of_some _ e) (Nat.le_refl _) ?_,rfl,q _ hf⟩
 exact⟨z,us,0,r,Heap.get?_push_size _ rfl⟩
end
abbrev Sp:=List V->Hp->VK->XK->Prop
abbrev dz:=List Env->Hp->Shared->XK->Value->Shared->Prop
structure fm(P:Program)(w:World)(K:PySem.W.Frag)(mg:Str->Option Value)(base:Heap)(A:Around)(outer:List Env)(s:Shared)(H:Hp):Prop where
 frames:A.frames=some outer
 mod:Mod K mg base
 bs:∀b o,base.get? b=some o->s.heap.get? b=some o/\H b=none
 dR:base.objs.size<=s.heap.objs.size
 dq:s.heap.FunFrames base outer
 fB:∀b∈ck outer,H b=none
 ax:bz P w H s.heap
 bare:AllBare s.gens
def CE(outer:List Env)(P:Program)(w:World)(H:Hp)(s:Shared)(Q:VK)(u:Value)(s':Shared):Prop:=
 ∃v H',s'.os=s.os/\AllBare s'.gens/\Un (ck outer) [] H H' s.heap s'.heap/\bz P w H' s'.heap/\RelV v u/\Q v H'
def CR(CX:dz)(outer:List Env)(P:Program)(w:World)(H:Hp)(s:Shared)(Q:VK)(E:XK)(r:Result)(s':Shared):Prop:=
 match r with
 | .ok (.ret u)=>CE outer P w H s Q u s'
 | .ok _=>False
 | .error e=>CX outer H s E e s'
structure aB(P:Program)(w:World)(K:PySem.W.Frag)(mg:Str->Option Value)(base:Heap)(CX:dz)(k:Nat)(f:Addr)(fd:FuncData)(ps:List Str)(sp:Sp):Prop where
 len:∀vs H Q E,sp vs H Q E->vs.length=ps.length
 run:∀(A:Around)(outer:List Env)(s:Shared)(H:Hp)(args:Args)(us:List Value)(vs:List V)(Q:VK)(E:XK),bp k A->fm P w K mg base A outer s H->BindsTo s fd args (ps.zip us)->aF vs us->sp vs H Q E->
  codeAny (model P w) A (.call (.ref f) args) (CR CX outer P w H s Q E) s
theorem aB.mono{P:Program}{w:World}{K:PySem.W.Frag}{mg:Str->Option Value}{base:Heap}{CX:dz}{j k:Nat}{f:Addr}{fd:FuncData}{ps:List Str}{sp:Sp}(F:aB P w K mg base CX j f fd ps sp)(h:j<=k):
  aB P w K mg base CX k f fd ps sp:=⟨F.len,fun A outer s H args us vs Q E hr=>F.run A outer s H args us vs Q E (hr.mono h)⟩
theorem aB.imp{P:Program}{w:World}{K:PySem.W.Frag}{mg:Str->Option Value}{base:Heap}{CX:dz}{k:Nat}{f:Addr}{fd:FuncData}{ps:List Str}{sp sp':Sp}(F:aB P w K mg base CX k f fd ps sp)
  (h:∀vs H Q E,sp' vs H Q E->sp vs H Q E):aB P w K mg base CX k f fd ps sp':=
 ⟨fun vs H Q E q=>F.len vs H Q E (h _ _ _ _ q),fun A outer s H args us vs Q E hr he hb hv hs=>F.run A outer s H args us vs Q E hr he hb hv (h _ _ _ _ hs)⟩
theorem fm.make{P:Program}{w:World}{K:PySem.W.Frag}{mg:Str->Option Value}{base:Heap}{A:Around}{outer:List Env}{s:Shared}{H:Hp}(e:fm P w K mg base A outer s H)(C:Addr)(us:List Value)(kw:List (Str×Value)):
  fm P w K mg base (A.under (.builtin "type.__call__" ⟨.ref C::us,kw⟩)) outer s H:=⟨by first|exact e.frames|(simpa [Around.under,Code.envs,Code.isFrame,pushEnvs]using e.frames),e.mod,e.bs,e.dR,e.dq,e.fB,e.ax,e.bare⟩
theorem fm.in1{P:Program}{w:World}{K:PySem.W.Frag}{mg:Str->Option Value}{base:Heap}{A:Around}{outer:List Env}{s:Shared}{H:Hp}(e:fm P w K mg base A outer s H):
  fm P w K mg base A.in1 outer s H:=⟨e.frames,e.mod,e.bs,e.dR,e.dq,e.fB,e.ax,e.bare⟩
section
variable {X:Cx}{pins:List (Addr×Obj)}{σ:St}{H:Hp}{s s':Shared}
theorem Inv.rX(I:Inv X pins σ H s):fm X.prog X.w X.K X.mg X.base X.A X.stack s H:=
 ⟨I.ok.frames,I.ok.mod,I.bs,Nat.le_trans I.ok.dR I.sz,I.stack,I.r9,I.ax,I.bare⟩
theorem Inv.after{Q:VK}{u:Value}(I:Inv X pins σ H s)(h:CE X.stack X.prog X.w H s Q u s'):EP X pins σ Q u s':=by
 obtain⟨v,H',os,bare,un,ax,r,q⟩:=h
 obtain⟨hh,g,d,t,os'⟩:=s'
 obtain rfl:os'=s.os:=os
 exact⟨v,H',I.call (h':=hh) (g':=g) (d':=d) (t':=t) (ch:=[]) un ax bare (fun b z=>absurd z (by simp)),r,q⟩
end
def qp(sp:Sp)(dvs:List V)(E:XK)(t:TA):TE:=fun σ H Q=>t σ H fun vs H1=>sp (vs++dvs) H1 Q E
def sE(C:Addr)(m:Str)(sp:Sp)(dvs:List V)(E:XK)(ta:TE)(t:TA):TE:=fun σ H Q=>ta σ H fun x H1=>∃a dx fs,x=.ref a/\H1 a=some (.ins C dx fs)/\fs.lookup m=none/\
 t σ H1 fun vs H2=>sp (x::(vs++dvs)) H2 Q E
def kE(C:Addr)(sp:Sp)(dvs:List V)(E:XK)(t:TA):TE:=fun σ H Q=>t σ H fun vs H1=>∀x dx,H1 x=none->H1 dx=none->dx≠x->
 sp (.ref x::(vs++dvs)) (upd (upd H1 dx (.own x)) x (.ins C dx [])) (fun v H2=>v=.aw/\Q (.ref x) H2) E
def Binds(K:PySem.W.Frag)(fd:FuncData)(ps:List Str)(ds:List Value):Prop:=
 ∀(s:Shared)(us:List Value),K.In s.heap->(us++ds).length=ps.length->BindsTo s fd ⟨us,[]⟩ (ps.zip (us++ds))
theorem Binds.all{K:PySem.W.Frag}{fd:FuncData}{ps:List Str}(h:∀us:List Value,us.length=ps.length->bindArgs fd ⟨us,[]⟩=pure (ps.zip us)):Binds K fd ps []:=fun s us _ hl=>by
 rw[List.append_nil]at hl ⊢
 exact .of_eq (h us hl)
def Passes(CX:dz)(X:Cx)(E:XK):Prop:=∀(pins:List (Addr×Obj))(σ:St)(H:Hp)(s:Shared)(e:Value)(s':Shared),Inv X pins σ H s->CX X.stack H s E e s'->X.xe e s'
section
variable {X:Cx}{CX:dz}{k:Nat}{f C:Addr}{fd:FuncData}{ps:List Str}{sp:Sp}{dvs:List V}{ds:List Value}{E:XK}{x m:Str}{p pos apos:Pos}{e o:Expr}{es:List Expr}{ta:TE}{t:TA}
theorem tK{pins:List (Addr×Obj)}{σ:St}{H:Hp}{s:Shared}{Q:VK}{us:List Value}{vs:List V}(F:aB X.prog X.w X.K X.mg X.base CX k f fd ps sp)(hr:bp k X.A)(hb:Binds X.K fd ps ds)(hd:aF dvs ds)(hx:Passes CX X E)
  (I:Inv X pins σ H s) (r:aF vs us) (h:sp (vs++dvs) H Q E):wpAny (model X.prog X.w) X.A (call (.ref f) us) (EP X pins σ Q) X.xe s:=by
 have r2:aF (vs++dvs) (us++ds):=r.append hd
 have hl:(us++ds).length=ps.length:=by rw[<-r2.length];exact F.len _ _ _ _ h
 refine wpAny_call (codeAny_mono (F.run X.A X.stack s H ⟨us,[]⟩ (us++ds) (vs++dvs) Q E hr I.rX (hb s us I.bh hl) r2 h) fun r s' hq=>?_)
 cases r with
 |error e=>exact hx pins σ H s e s' I hq
 |ok fl=>
  cases fl with
  |ret u=>exact I.after hq
  |next=>exact False.elim hq
  |brk=>exact False.elim hq
  |cont=>exact False.elim hq
theorem G5(F:aB X.prog X.w X.K X.mg X.base CX k f fd ps sp)(hr:bp k X.A)(hg:Gl X x)(hm:X.mg x=some (.ref f))(hk:PySem.W.keepIn X.K (.ref f)=true)(hb:Binds X.K fd ps ds)(hd:aF dvs ds)(hx:Passes CX X E)
  (ha:PA X (e::es) t) (hdb:(x==("__debug__":Str))=false:=by decide) (he:starEach (e::es) X.env=(false,eval e X.env)::starEach es X.env:=by rfl) (hpl:(backTo pos (starEach es X.env)).any (·.1)=false:=by rfl):
  PE X (.Call (.Name x p) (e::es) [] pos) (qp sp dvs E t):=by
 intro pins s σ H Q I h
 refine wpAny_Call_Name_kw (hU I hg hm ?_ hdb)
 refine PySem.W.callWith_K (h₀:=X.base) I.ok.mod.iL hk (aJ (ha pos pins s σ H _ I h) fun us s1⟨vs,H1,I1,r,q⟩=>⟨I1.bh,?_⟩) he hpl
 exact tK F hr hb hd hx I1 r q
theorem aV{pl:Sem Bool}(he:PE X o ta)(c:fV X.K C)(hm:so X.K C m f)(F:aB X.prog X.w X.K X.mg X.base CX k f fd ps sp)(hr:bp k X.A)(hb:Binds X.K fd ps ds)(hd:aF dvs ds)(hx:Passes CX X E)(ha:PA X (e::es) t)
  (hst:starEach (e::es) X.env=(false,eval e X.env)::starEach es X.env:=by rfl) (hpl:(backTo pos (starEach es X.env)).any (·.1)=false:=by rfl)
  (ht:eval (.Call (.Attribute o m apos) (e::es) [] pos) X.env=(do
   let ov <-eval o X.env
   standAt apos.atName
   let(f,first) <-holding [ov] (getMethod ov m pl)
   callWith pos f first (backTo pos (starEach (e::es) X.env)) (backToKw pos (keywordEach [] X.env))):=by rfl):
  PE X (.Call (.Attribute o m apos) (e::es) [] pos) (sE C m sp dvs E ta t):=by
 intro pins s σ H Q I h
 refine PySem.W.methodCall_KW (pl:=pl) (aJ (he pins s σ H _ I h) fun u s1⟨x,H1,I1,rx,a,dx,fs,ex,ea,l,q⟩=>?_) ht
 subst ex
 obtain rfl:u=Value.ref a:=rx
 refine BO I1 ea c hm l ?_
 refine PySem.W.callWith_K (first:=[.ref a]) (h₀:=X.base) I.ok.mod.iL hm.kp (aJ (ha pos pins s1 σ H1 _ I1 q) fun us s2⟨vs,H2,I2,r,q2⟩=>⟨I2.bh,?_⟩) hst hpl
 exact tK (us:=.ref a::us) (vs:=.ref a::vs) F hr hb hd hx I2 (.cons rfl r) q2
theorem cq{pl:Sem Bool}(he:PE X o ta)(c:fV X.K C)(hm:so X.K C m f)(F:aB X.prog X.w X.K X.mg X.base CX k f fd ps sp)(hr:bp k X.A)(hb:Binds X.K fd ps ds)(hd:aF dvs ds)(hx:Passes CX X E)
  (ht:eval (.Call (.Attribute o m apos) [] [] pos) X.env=(do
   let ov <-eval o X.env
   standAt apos.atName
   let(f,first) <-holding [ov] (getMethod ov m pl)
   callWith pos f first (backTo pos (starEach [] X.env)) (backToKw pos (keywordEach [] X.env))):=by rfl):
  PE X (.Call (.Attribute o m apos) [] [] pos) (sE C m sp dvs E ta d9):=by
 intro pins s σ H Q I h
 refine PySem.W.methodCall_KW (pl:=pl) (aJ (he pins s σ H _ I h) fun u s1⟨x,H1,I1,rx,a,dx,fs,ex,ea,l,q⟩=>?_) ht
 subst ex
 obtain rfl:u=Value.ref a:=rx
 refine BO I1 ea c hm l ?_
 exact PySem.W.callWith_K0 (first:=[.ref a]) I1.bh hm.kp (tK (us:=[.ref a]) (vs:=[.ref a]) F hr hb hd hx I1 (.cons rfl .nil) q)
structure Mk(K:PySem.W.Frag)(C f:Addr):Prop where
 makes:PySem.W.makesIn K C=true
 init:PySem.W.findIn K (.ref C) "__init__"=some (some (.ref f))
 fn:PySem.W.isFn K (.ref f)=true
 kp:PySem.W.keepIn K (.ref C)=true
theorem B5{pins:List (Addr×Obj)}{σ:St}{H:Hp}{s:Shared}{Q:VK}{us:List Value}{vs:List V}(M:Mk X.K C f)(F:aB X.prog X.w X.K X.mg X.base CX k f fd ps sp)(hr:bp (k+1) X.A)(hb:Binds X.K fd ps ds)(hd:aF dvs ds)
  (hx:Passes CX X E) (I:Inv X pins σ H s) (r:aF vs us)
  (h:∀x dx,H x=none->H dx=none->dx≠x->sp (.ref x::(vs++dvs)) (upd (upd H dx (.own x)) x (.ins C dx [])) (fun v H2=>v=.aw/\Q (.ref x) H2) E):
  wpAny (model X.prog X.w) X.A (call (.ref C) us) (EP X pins σ Q) X.xe s:=by
 have hq:=h (s.heap.objs.size+1) s.heap.objs.size (I.ax.fresh (Nat.le_succ _)) (I.ax.fresh (Nat.le_refl _)) (Nat.ne_of_lt (Nat.lt_succ_self _))
 have I2:=Inv.made (C:=C) I
 have r2:aF (V.ref (s.heap.objs.size+1)::(vs++dvs)) (Value.ref (s.heap.objs.size+1)::(us++ds)):=.cons rfl (r.append hd)
 have hl:(Value.ref (s.heap.objs.size+1)::us++ds).length=ps.length:=by
  have e:=r2.length
  rw[F.len _ _ _ _ hq]at e
  exact e.symm
 refine wpAny_call (IC (f:=f) I.bh M.makes M.init (beq_iff_eq.mp M.fn) (codeAny_mono (F.run _ X.stack _ _ ⟨Value.ref (s.heap.objs.size+1)::us,[]⟩ (Value.ref (s.heap.objs.size+1)::(us++ds)) _ _ E (hr.make C us [])
  (I2.rX.make C us []) (hb _ (Value.ref (s.heap.objs.size+1)::us) I2.bh hl) r2 hq) fun r s' hq'=>?_))
 cases r with
 |error e=>exact hx pins σ _ _ e s' I2 hq'
 |ok fl=>
  cases fl with
  |ret u=>
   obtain⟨v,H',I3,rv,ev,q3⟩:=I2.after hq'
   subst ev
   exact⟨rv,⟨V.ref (s.heap.objs.size+1),H',I3,rfl,q3⟩⟩
  |next=>exact False.elim hq'
  |brk=>exact False.elim hq'
  |cont=>exact False.elim hq'
theorem eA(M:Mk X.K C f)(F:aB X.prog X.w X.K X.mg X.base CX k f fd ps sp)(hr:bp (k+1) X.A)(hg:Gl X x)(hm:X.mg x=some (.ref C))(hb:Binds X.K fd ps ds)(hd:aF dvs ds)(hx:Passes CX X E)
  (ha:PA X (e::es) t) (hdb:(x==("__debug__":Str))=false:=by decide) (he:starEach (e::es) X.env=(false,eval e X.env)::starEach es X.env:=by rfl) (hpl:(backTo pos (starEach es X.env)).any (·.1)=false:=by rfl):
  PE X (.Call (.Name x p) (e::es) [] pos) (kE C sp dvs E t):=by
 intro pins s σ H Q I h
 refine wpAny_Call_Name_kw (hU I hg hm ?_ hdb)
 refine PySem.W.callWith_K (h₀:=X.base) I.ok.mod.iL M.kp (aJ (ha pos pins s σ H _ I h) fun us s1⟨vs,H1,I1,r,q⟩=>⟨I1.bh,?_⟩) he hpl
 exact B5 M F hr hb hd hx I1 r q
theorem Gm(M:Mk X.K C f)(F:aB X.prog X.w X.K X.mg X.base CX k f fd ps sp)(hr:bp (k+1) X.A)(hg:Gl X x)(hm:X.mg x=some (.ref C))(hb:Binds X.K fd ps ds)(hd:aF dvs ds)(hx:Passes CX X E)
  (hdb:(x==("__debug__":Str))=false:=by decide):PE X (.Call (.Name x p) [] [] pos) (kE C sp dvs E d9):=by
 intro pins s σ H Q I h
 refine wpAny_Call_Name_kw (hU I hg hm ?_ hdb)
 exact PySem.W.callWith_K0 I.bh M.kp (B5 (us:=[]) M F hr hb hd hx I .nil h)
end
section
variable {X:Cx}{CX:dz}{k:Nat}{f C:Addr}{fd:FuncData}{ps ks:List Str}{sp:Sp}{E:XK}{x m:Str}{p pos apos kpos:Pos}{e o:Expr}{es:List Expr}{kws:List Keyword}{te ta:TE}{t tk:TA}{nm:Option Str}
variable {g:List Value->List Value->List Value}{gV:List V->List V->List V}
end
structure aI(N P:List Str)(sc:Scope):Prop where
 kind:sc.kind=.function
 co:sc.isCoroutine=false
 gen:sc.isGenerator=false
 nd:N.Nodup
 pre:N.take P.length=P
 par:∀x∈P,sc.names.lookup x=some .local\/sc.names.lookup x=some .cell
 L6:∀y∈sc.names,y.2≠ .free
theorem A8{kindOf:Str->Option NameKind}{x:Str}:∀{binds:List (Str×Value)}{m:Str->Option Value},(∀v,(x,v)∉binds)->bindL kindOf binds m x=m x
 |[],_,_=>rfl
 |(n,v)::r,m,h=>by
  unfold bindL
  rw[A8 fun w hw=>h w (List.mem_cons_of_mem _ hw)]
  split
  ·have:x≠n:=by rintro rfl;exact h v List.mem_cons_self
   simp[this]
  ·rfl
theorem Dz{kindOf:Str->Option NameKind}{x:Str}:∀{binds:List (Str×Value)}{m:Str->Option Value},(∀v,(x,v)∉binds)->bindC kindOf binds m x=m x
 |[],_,_=>rfl
 |(n,v)::r,m,h=>by
  unfold bindC
  rw[Dz fun w hw=>h w (List.mem_cons_of_mem _ hw)]
  split
  ·rfl
  ·have:x≠n:=by rintro rfl;exact h v List.mem_cons_self
   simp[this]
theorem A5{kindOf:Str->Option NameKind}{x:Str}{v:Value}:∀{P:List Str}{vs:List Value}{i:Nat}{m:Str->Option Value},P.Nodup->P[i]? =some x->vs[i]? =some v->kindOf x=some .local->
  bindL kindOf (P.zip vs) m x=some v
 |[],_,_,_,_,h,_,_=>by simp at h
 |_::_,[],_,_,_,_,h,_=>by simp at h
 |p::P,w::vs,0,m,nd,h1,h2,hk=>by
  simp at h1 h2;subst h1;subst h2
  show bindL kindOf ((p,w)::P.zip vs) m p=_
  unfold bindL
  rw[A8 fun v hv=>(List.nodup_cons.mp nd).1 (List.of_mem_zip hv).1,if_pos hk]
  simp
 |p::P,w::vs,i+1,m,nd,h1,h2,hk=>by
  show bindL kindOf ((p,w)::P.zip vs) m x=_
  unfold bindL
  exact A5 (i:=i) (List.nodup_cons.mp nd).2 (by simpa using h1) (by simpa using h2) hk
theorem CN{kindOf:Str->Option NameKind}{x:Str}{v:Value}:∀{P:List Str}{vs:List Value}{i:Nat}{m:Str->Option Value},P.Nodup->P[i]? =some x->vs[i]? =some v->kindOf x≠some .local->
  bindC kindOf (P.zip vs) m x=some v
 |[],_,_,_,_,h,_,_=>by simp at h
 |_::_,[],_,_,_,_,h,_=>by simp at h
 |p::P,w::vs,0,m,nd,h1,h2,hk=>by
  simp at h1 h2;subst h1;subst h2
  show bindC kindOf ((p,w)::P.zip vs) m p=_
  unfold bindC
  rw[Dz fun v hv=>(List.nodup_cons.mp nd).1 (List.of_mem_zip hv).1,if_neg hk]
  simp
 |p::P,w::vs,i+1,m,nd,h1,h2,hk=>by
  show bindC kindOf ((p,w)::P.zip vs) m x=_
  unfold bindC
  exact CN (i:=i) (List.nodup_cons.mp nd).2 (by simpa using h1) (by simpa using h2) hk
def start(N:List Str)(vs:List V):St:=vs.map some++List.replicate (N.length-vs.length) none
def fA(CX:dz)(P:Program)(w:World)(K:PySem.W.Frag)(mg:Str->Option Value)(base:Heap)(N:List Str)(qual:Str)(scope:Scope)(f:Addr)(cd:Value)(A:Around)(outer:List Env)(s:Shared)(H:Hp)(E:XK):Cx where
 prog:=P
 w:=w
 K:=K
 mg:=mg
 base:=base
 A:=A.deeper (envOfC qual scope s.heap.objs.size f cd)
 N:=N
 bX:=s
 mY:=H
 env:=envOfC qual scope s.heap.objs.size f cd
 outer:=outer
 stack:=envOfC qual scope s.heap.objs.size f cd::outer
 ex:=[]
 calm:=true
 fn:=fun _=>true
 pn:=[]
 xe:=fun e s'=>wpAny (model P w) (A.deeper (envOfC qual scope s.heap.objs.size f cd)) (leaving (envOfC qual scope s.heap.objs.size f cd) e) (fun _ s''=>CX outer H s E e s'') (fun e' s''=>CX outer H s E e' s'') s'
theorem A0{sc:Scope}{n:Nat}{x:Str}(h:sc.names.lookup x=some .cell):∃c,(cellsFrom n sc.names []).lookup x=some c:=by
 have q:=PySem.W.cellsFrom_some sc.names n [] (.inl h)
 exact Option.isSome_iff_exists.mp q
theorem zd{CX:dz}{P:Program}{w:World}{K:PySem.W.Frag}{mg:Str->Option Value}{base:Heap}{N ps:List Str}{qual:Str}{scope:Scope}{f:Addr}{cd:Value}{A:Around}{outer:List Env}{s s1:Shared}{H:Hp}{E:XK}{us:List Value}{vs:List V}
  (S:aI N ps scope) (hd:A.handled=none) (e0:fm P w K mg base A outer s H) (hl:vs.length=ps.length) (r:aF vs us)
  (x:InCallC s s.heap.objs.size (bindL (envOfC qual scope s.heap.objs.size f cd).kindOf (ps.zip us) fun _=>none) (cellsFrom (s.heap.objs.size+1) scope.names []) (bindC (envOfC qual scope s.heap.objs.size f cd).kindOf (ps.zip us) fun _=>none) s1):
  Inv (fA CX P w K mg base N qual scope f cd A outer s H E) [] (start N vs) H s1:=by
 have hpl:ps.length<=N.length:=by have:=congrArg List.length S.pre;rw[List.length_take]at this;omega
 obtain⟨h1,tk,rfl,hk⟩:=x.done
 have noA:∀b:Addr,b∉(fA CX P w K mg base N qual scope f cd A outer s H E).ex:=fun b z=>absurd (show b∈([]:List Addr)from z) (by simp)
 refine⟨⟨e0.mod,S.kind,rfl,rfl,Nat.le_refl _,fun y z c h1 h2=>?_,fun y hy=>?_,fun y c _ h=>?_,fun _=>hd,Around.frames_deeper e0.frames,.inr ⟨rfl,rfl⟩,fun b z=>absurd z (noA b),e0.bs,e0.dR,fun b _ _=>noA b,fun b z=>absurd z (noA b),e0.dq,e0.fB⟩,
  rfl,e0.bare,Un.kept hk,⟨_,x.toInCall.ns,fun i y v h1 h2 h3=>?_⟩,fun y c h=>⟨_,x.cell y c h⟩,e0.ax.fresh (Nat.le_refl _),fun y c h=>?_,fun p hp=>absurd (show p∈([]:List (Addr×Obj))from hp) (by simp),e0.ax.kept hk,?_⟩
 ·exact name_of_addr x.apart (PySem.mem_of_lookup h1) (PySem.mem_of_lookup h2)
 ·have hy:scope.names.lookup y=some .cell\/scope.names.lookup y=some .free:=hy
  rcases hy with hy|hy
  ·exact A0 hy
  ·exact absurd rfl (S.L6 _ (PySem.mem_of_lookup hy))
 ·exact Nat.le_of_lt (x.above y c (PySem.mem_of_lookup h))
 ·have hi:i<vs.length:=by
   unfold start at h2
   by_cases hi:i<vs.length
   ·exact hi
   ·rw[List.getElem?_append_right (by simpa using hi)]at h2
    rw[List.getElem?_replicate]at h2
    split at h2<;>cases h2
  have ha:vs[i]? =some v:=by
   unfold start at h2
   rw[List.getElem?_append_left (by simpa using hi),List.getElem?_map]at h2
   cases e:vs[i]? with
   |none=>rw[e]at h2;cases h2
   |some a=>rw[e]at h2;cases h2;rfl
  obtain⟨u,hu,rv⟩:=r.get ha
  have hp:ps[i]? =some y:=by
   rw[<-S.pre,List.getElem?_take_of_lt (by omega)];exact h1
  have ndP:ps.Nodup:=by rw[<-S.pre];exact S.nd.sublist (List.take_sublist _ _)
  refine⟨u,rv,?_⟩
  rcases S.par y (List.mem_of_getElem? hp)with k|k
  ·exact .inl ⟨k,A5 ndP hp hu k⟩
  ·obtain⟨c,e⟩:=A0 (n:=s.heap.objs.size+1) k
   refine .inr ⟨.inl k,c,e,?_⟩
   have q:=x.cell y c e
   rw[CN ndP hp hu (by show scope.names.lookup y≠_;rw[k];decide)]at q
   exact q
 ·exact e0.ax.fresh (Nat.le_of_lt (x.above y c (PySem.mem_of_lookup h)))
 ·unfold start
  show _=N.length
  rw[List.length_append,List.length_map,List.length_replicate]
  omega
theorem B3{CX:dz}{P:Program}{w:World}{K:PySem.W.Frag}{mg:Str->Option Value}{base:Heap}{k:Nat}{f:Addr}{name qual:Str}{params:Arguments}{body:List Stmt}{scope:Scope}{dV kV doc pm cdv ct oc:Value}{an od:Option Addr}
  {osl:Array (Option Value)} {N ps:List Str} {sp:Sp} (lk:K.lookup f=some ⟨oc,od,.func (PySem.W.fnOf name qual params body scope dV kV doc pm an cdv ct),osl⟩) (hcd:PySem.W.codeIn K cdv qual=true) (S:aI N ps scope)
  (len:∀vs H Q E,sp vs H Q E->vs.length=ps.length)
  (hbody:∀(A:Around)(outer:List Env)(s:Shared)(H:Hp)(vs:List V)(Q:VK)(E:XK),bp k (A.deeper (envOfC qual scope s.heap.objs.size f cdv))->sp vs H Q E->
   ∃t,dI (fA CX P w K mg base N qual scope f cdv A outer s H E) body t/\t {nx:=fun _ H'=>Q .aw H',rt:=Q} (start N vs) H):
  aB P w K mg base CX (k+1) f (PySem.W.fnOf name qual params body scope dV kV doc pm an cdv ct) ps sp:=by
 refine⟨len,fun A outer s H args us vs Q E hr e0 hb r hsp=>?_⟩
 have hl:=len _ _ _ _ hsp
 have KX:K.In s.heap:=e0.mod.iL.keeps fun b o e=>(e0.bs b o e).1
 have lim:s.heap.NoLimit:=e0.mod.nolimit.keeps fun b o e=>(e0.bs b o e).1
 have hkind:∀y∈ps.zip us,scope.names.lookup y.1=some .local\/(scope.names.lookup y.1=some .cell/\((cellsFrom (s.heap.objs.size+1) scope.names []).lookup y.1).isSome=true):=fun⟨n,v⟩hy=>by
  rcases S.par n (List.of_mem_zip hy).1 with q|q
  ·exact .inl q
  ·exact .inr ⟨q,PySem.W.cellsFrom_some _ _ _ (.inl q)⟩
 refine codeAny_call_function hr.depth (KX _ _ lk) rfl S.co S.gen rfl (PySem.W.codeRec_of KX hcd) (hb _ _ _ _ ?_)
 refine wpAny_newFunctionEnv_cells S.kind hkind fun env he s1 x=>?_
 subst he
 refine⟨lim.keeps x.toInCall.keep,codeAny_func ?_⟩
 obtain⟨t,ht,hq⟩:=hbody A outer s H vs Q E (hr.deeper _) hsp
 have I:Inv (fA CX P w K mg base N qual scope f cdv A outer s H E) [] (start N vs) H s1:=zd S hr.hd e0 hl r x
 refine wpAny_mono (ht [] s1 (start N vs) H _ I hq) (fun fl s' hs=>?_) fun e s' hs=>hs
 have fin:∀{σ':St}{H':Hp}{v:V}{u:Value},Inv (fA CX P w K mg base N qual scope f cdv A outer s H E) [] σ' H' s'->RelV v u->Q v H'->CE outer P w H s Q u s':=
  fun{σ' H' v u}J rv q=>⟨v,H',J.os,J.bare,J.base,J.ax,rv,q⟩
 cases fl with
 |ret u=>
  obtain⟨v,σ',H',J,rv,q⟩:=hs
  exact fin J rv q
 |next=>
  obtain⟨σ',H',J,q⟩:=hs
  exact fin (v:=V.aw) (u:=Value.none) J rfl q
 |brk=>
  obtain⟨_,_,_,q⟩:=hs
  exact False.elim q
 |cont=>
  obtain⟨_,_,_,q⟩:=hs
  exact False.elim q
end L2
namespace L2
open PySem PySem.Spec PyProof.Rows
section
variable {X:Cx}{x:Str}{p pos:Pos}{e:Expr}{es:List Expr}{t:TA}{id T:String}{r:List V->Hp->VK->Prop}
def pV(r:List V->Hp->VK->Prop)(t:TA):TE:=fun σ H Q=>t σ H fun vs H1=>r vs H1 Q
theorem mI(hc:gv X (.builtin id) r)(hg:Gl X x)(hm:X.mg x=none)(hv:bootBuiltins x=some (.builtin id))(ha:PA X (e::es) t)(hn:x≠"__name__":=by decide)(hdb:(x==("__debug__":Str))=false:=by decide)
  (he:starEach (e::es) X.env=(false,eval e X.env)::starEach es X.env:=by rfl) (hpl:(backTo pos (starEach es X.env)).any (·.1)=false:=by rfl):PE X (.Call (.Name x p) (e::es) [] pos) (pV r t):=by
 intro pins s σ H Q I h
 refine wpAny_Call_Name_kw (DD I hg hm hv ?_ hn hdb)
 exact PyProof.Rows.callWith_builtin1 (aJ (ha pos pins s σ H _ I h) fun us s1⟨vs,H1,I1,r1,q1⟩=>hc pins s1 σ H1 vs us Q I1 r1 q1) he hpl
theorem Lb(hc:gv X (.type T) r)(hg:Gl X x)(hm:X.mg x=none)(hv:bootBuiltins x=some (.type T))(ha:PA X (e::es) t)(hn:x≠"__name__":=by decide)(hdb:(x==("__debug__":Str))=false:=by decide)
  (he:starEach (e::es) X.env=(false,eval e X.env)::starEach es X.env:=by rfl) (hpl:(backTo pos (starEach es X.env)).any (·.1)=false:=by rfl):PE X (.Call (.Name x p) (e::es) [] pos) (pV r t):=by
 intro pins s σ H Q I h
 refine wpAny_Call_Name_kw (DD I hg hm hv ?_ hn hdb)
 exact PyProof.Rows.callWith_type1 (aJ (ha pos pins s σ H _ I h) fun us s1⟨vs,H1,I1,r1,q1⟩=>hc pins s1 σ H1 vs us Q I1 r1 q1) he hpl
end
end L2
namespace HT
open PySem PyProof.Rows
section
open PySem.SeqAt
open PySem.AutoSeq1 (wpAny_loadPart')
open PySem.MeetsSeq PySem.MeetsSeq2 PySem.MeetsSeq3
end
section
variable {prog:Program}{w:World}{A:Around}{E:Value->Shared->Prop}{s:Shared}
def d8(n d:Nat):Option Int->Nat
 |none=>d
 |some v=>if v<0 then(v+(n:Int)).toNat else min v.toNat n
theorem Cz(n d k:Nat):d8 n d (some (k:Int))=min k n:=by
 show(if(k:Int)<0 then((k:Int)+(n:Int)).toNat else min (k:Int).toNat n)=min k n
 rw[if_neg (by omega),Int.toNat_natCast]
end
end HT
namespace L2
open PySem PySem.Spec PyProof.Rows
abbrev TO:=St->Hp->(Option Int->Hp->Prop)->Prop
def PO(X:Cx)(e:Option Expr)(t:TO):Prop:=
 ∀(pins:List (Addr×Obj))(s:Shared)(σ:St)(H:Hp)(Q:Option Int->Hp->Prop),Inv X pins σ H s->t σ H Q->
  wpAny (model X.prog X.w) X.A (evalPart e X.env) (fun u s'=>∃o H',Inv X pins σ H' s'/\IsPart u o/\Q o H') X.xe s
def qf(t:TE):TO:=fun σ H Q=>t σ H fun x H1=>∃i,x=.int i/\Q (some i) H1
section
variable {X:Cx}{e:Expr}{te:TE}{lo hi:Option Expr}{tl th:TO}{pos p2:Pos}
theorem tL(h:PE X e te):PO X (some e) (qf te):=by
 intro pins s σ H Q I hw
 rw[evalPart_some]
 refine aJ (h pins s σ H _ I hw) fun u s1⟨x,H1,I1,r1,q1⟩=>?_
 obtain⟨i,rfl,q⟩:=q1
 obtain⟨t,rfl⟩:=r1
 exact⟨some i,H1,I1,.int i t,q⟩
def m7(X:Cx)(r:V->Option Int->Option Int->Hp->VK->Prop):Prop:=
 ∀(pins:List (Addr×Obj))(s:Shared)(σ:St)(H:Hp)(x:V)(v vl vu:Value)(lo hi:Option Int)(sl:Addr)(Q:VK),Inv X pins σ H s->RelV x v->s.heap.IsSliceOf sl vl vu .none->IsPart vl lo->IsPart vu hi->r x lo hi H Q->
  ∃T id,typeLookup (.type T) "__getitem__"=pure (some (.builtin id))/\s.TypeIs v T/\wpAny (model X.prog X.w) X.A (getItem v (.ref sl)) (EP X pins σ Q) X.xe s
theorem m7.or{r r':V->Option Int->Option Int->Hp->VK->Prop}(h:m7 X r)(h':m7 X r'):m7 X (fun x lo hi H Q=>r x lo hi H Q\/r' x lo hi H Q):=by
 intro pins s σ H x v vl vu lo hi sl Q I rx hs pl pu q
 rcases q with q|q
 ·exact h pins s σ H x v vl vu lo hi sl Q I rx hs pl pu q
 ·exact h' pins s σ H x v vl vu lo hi sl Q I rx hs pl pu q
def xC(r:V->Option Int->Option Int->Hp->VK->Prop)(te:TE)(tl th:TO):TE:=fun σ H Q=>te σ H fun x H1=>tl σ H1 fun l H2=>th σ H2 fun u H3=>r x l u H3 Q
theorem CF{r:V->Option Int->Option Int->Hp->VK->Prop}(hr:m7 X r)(he:PE X e te)(hl:PO X lo tl)(hu:PO X hi th):PE X (.Subscript e (.Slice lo hi none p2) pos) (xC r te tl th):=by
 intro pins s σ H Q I h
 refine Subscript_ (aJ (he pins s σ H _ I h) fun v s1⟨x,H1,I1,r1,q1⟩=>?_)
 refine wpAny_Slice (aJ (hl pins s1 σ H1 _ I1 q1) fun vl s2⟨l,H2,I2,pl,q2⟩=>aJ (hu pins s2 σ H2 _ I2 q2) fun vu s3⟨u,H3,I3,pu,q3⟩=>?_)
 rw[evalPart_none]
 refine wpAny_pure ?_
 have I4:Inv X pins σ H3 {s3 with heap:=s3.heap.push {cls:=.type "slice",data:=.fields #[vl,vu,.none]}}:=I3.kept (t':=s3.toks) fun b ob q=>Heap.get?_push_of_some _ q
 obtain⟨T,id,hT,ht,hg⟩:=hr pins {s3 with heap:=s3.heap.push {cls:=.type "slice",data:=.fields #[vl,vu,.none]}} σ H3 x v vl vu l u s3.heap.objs.size Q I4 r1 (Heap.IsSliceOf.new ..) pl pu q3
 show wpAny (model X.prog X.w) X.A (subscriptTail e (.Slice lo hi none p2) v (.ref s3.heap.objs.size)) (EP X pins σ Q) X.xe {s3 with heap:=s3.heap.push {cls:=.type "slice",data:=.fields #[vl,vu,.none]}}
 exact tail_any (ops:=[.ref s3.heap.objs.size,v]) ht hT hg (by with_unfolding_all rfl)
def jk(xs:List V)(lo hi:Option Int):List V:=(xs.drop (HT.d8 xs.length 0 lo)).take (HT.d8 xs.length xs.length hi-HT.d8 xs.length 0 lo)
theorem Mr(xs:List V)(lo hi:Option Int):(jk xs lo hi).length<=xs.length:=by
 unfold jk
 rw[List.length_take,List.length_drop]
 omega
end
end L2
namespace L2
open PySem PySem.Spec PyProof.Rows
def lq(n:Nat)(i:Int):Option Nat:=if 0<=i then(if i<n then some i.toNat else none)else if -(n:Int)<=i then some (i+n).toNat else none
def kU{α:Type}(xs:List α)(i:Int):Option α:=(lq xs.length i).bind fun j=>xs[j]?
theorem JZ{n:Nat}{i:Int}{j:Nat}(h:lq n i=some j):seqIndex? i n=some j/\j<n∧-(n:Int)<=i/\i<n:=by
 unfold lq at h
 by_cases h0:0<=i
 ·rw[if_pos h0]at h
  by_cases h1:i<n
  ·rw[if_pos h1]at h
   have e:i.toNat=j:=Option.some.inj h
   exact⟨by rw[seqIndex_of h0 h1,e],by omega,by omega,h1⟩
  ·rw[if_neg h1]at h;cases h
 ·rw[if_neg h0]at h
  by_cases h1: -(n:Int)<=i
  ·rw[if_pos h1]at h
   have e:(i+n).toNat=j:=Option.some.inj h
   exact⟨by rw[seqIndex_neg (by omega) h1,e],by omega,h1,by omega⟩
  ·rw[if_neg h1]at h;cases h
theorem zw{α:Type}{xs:List α}{i:Int}{v:α}(h:kU xs i=some v):∃j,seqIndex? i xs.length=some j/\xs[j]? =some v/\j<xs.length∧-(xs.length:Int)<=i/\i<xs.length:=by
 unfold kU at h
 cases e:lq xs.length i with
 |none=>rw[e]at h;cases h
 |some j=>
  rw[e]at h
  obtain⟨h1,h2,h3,h4⟩:=JZ e
  exact⟨j,h1,h,h2,h3,h4⟩
theorem ya{α:Type}{xs:List α}{j:Nat}{v:α}(h:xs[j]? =some v):kU xs (j:Int)=some v:=by
 have hj:j<xs.length:=(List.getElem?_eq_some_iff.mp h).1
 have e:lq xs.length (j:Int)=some j:=by
  unfold lq
  rw[if_pos (by omega),if_pos (by omega)];simp
 unfold kU;rw[e];exact h
def Ll(b:Expr):Prop:=∀o i,subscripted b false o i=operate [o,i] (getItem o i)
def jK(X:Cx)(r:R2):Prop:=
 ∀(value slice:Expr)(pins:List (Addr×Obj))(s:Shared)(σ:St)(H:Hp)(x y:V)(v u:Value)(Q:VK),Inv X pins σ H s->RelV x v->RelV y u->r x y H Q->
  subscripted slice false v u=operate [v,u] (getItem v u)->wpAny (model X.prog X.w) X.A (subscriptTail value slice v u) (EP X pins σ Q) X.xe s
def kI(X:Cx)(id:String)(r:V->List V->Hp->VK->Prop):Prop:=
 ∀(pins:List (Addr×Obj))(s:Shared)(σ:St)(H:Hp)(x:V)(xs:List V)(v:Value)(us:List Value)(Q:VK),Inv X pins σ H s->RelV x v->aF xs us->r x xs H Q->
  wpAny (model X.prog X.w) X.A (call (.builtin id) (v::us)) (EP X pins σ Q) X.xe s
section
variable {X:Cx}{a b:Expr}{ta tb:TE}{pos:Pos}
theorem jK.or{r r':R2}(h:jK X r)(h':jK X r'):jK X (fun x y H Q=>r x y H Q\/r' x y H Q):=by
 intro value slice pins s σ H x y v u Q I rx ry q hs
 rcases q with q|q
 ·exact h value slice pins s σ H x y v u Q I rx ry q hs
 ·exact h' value slice pins s σ H x y v u Q I rx ry q hs
theorem kI.or{id:String}{r r':V->List V->Hp->VK->Prop}(h:kI X id r)(h':kI X id r'):kI X id (fun x xs H Q=>r x xs H Q\/r' x xs H Q):=by
 intro pins s σ H x xs v us Q I rx rs q
 rcases q with q|q
 ·exact h pins s σ H x xs v us Q I rx rs q
 ·exact h' pins s σ H x xs v us Q I rx rs q
theorem eh{r:R2}(hr:jK X r)(ha:PE X a ta)(hb:PE X b tb)(hs:Ll b):PE X (.Subscript a b pos) (dP r ta tb):=by
 intro pins s σ H Q I h
 exact Subscript_ (vI ha hb I h fun v u s2 x y H2 I2 rx ry q=>hr a b pins s2 σ H2 x y v u Q I2 rx ry q (hs _ _))
def zE(K:PySem.W.Frag):R2:=fun x y H Q=>∃p xs i v,x=.ref p/\y=.int i/\aO K H p xs/\kU xs i=some v/\Q v H
def JY:R2:=fun x y H Q=>∃z i c,x=.str z/\y=.int i/\z.length<=sizeLine/\kU z.cps.toList i=some c/\Q (.str ⟨#[c]⟩) H
theorem fk:jK X (zE X.K):=by
 intro value slice pins s σ H x y v u Q I rx ry h hs
 obtain⟨p,xs,i,z,rfl,rfl,hq,he,q⟩:=h
 cases rx
 obtain⟨t,rfl⟩:=ry
 obtain⟨its,r,pl,hz⟩:=I.list hq
 obtain⟨j,h1,h2,h3,h4,h5⟩:=zw he
 obtain⟨w,ew,rw'⟩:=r.get h2
 have hl:=r.length
 have hn:=rM
 have fin:EP X pins σ Q w s:=⟨z,H,I,rw',q⟩
 by_cases h0:0<=i
 ·have hj:i.toNat=j:=by
   rw[seqIndex_of h0 h5]at h1
   exact Option.some.inj h1
  exact item_listR pl.isList h0 (by omega) (by rw[hj];simpa using ew) fin hs
 ·have hj:(i+(its.toArray.size:Int)).toNat=j:=by
   rw[seqIndex_neg (by omega) h4]at h1
   rw[List.size_toArray,<-hl]
   exact Option.some.inj h1
  exact subscriptTail_builtinR (x:=w) pl.isList.typeIs slot_list_getitem.lookup
   (wpAny_getItem_list_neg (Q:=fun r s'=>r=w/\EP X pins σ Q r s') pl.isList (by omega) (by rw[List.size_toArray]<;>omega) (by omega) (by rw[hj];simpa using ew) ⟨rfl,fin⟩) hs
theorem BC:jK X JY:=by
 intro value slice pins s σ H x y v u Q I rx ry h hs
 obtain⟨z,i,c,rfl,rfl,hz,he,q⟩:=h
 obtain⟨t,rfl⟩:=rx
 obtain⟨t',rfl⟩:=ry
 obtain⟨j,h1,h2,h3,h4,h5⟩:=zw he
 have hl:z.cps.toList.length=z.length:=by simp[Str.length]
 rw[hl]at h1 h4 h5
 have hn:=rM
 exact tail_any (typeIs_str s z t) slot_str_getitem.lookup (getItem_str (c:=c) (by
  have e1:decide (i< -(2^63:Int))=false:=decide_eq_false (by omega)
  have e2:decide (i>=2^63)=false:=decide_eq_false (by omega)
  rw[e1,e2,Bool.or_false]) (by rw[h1];simpa using h2) ⟨.str ⟨#[c]⟩,H,I.tok _,⟨_,rfl⟩,q⟩) hs
theorem Inv.lst{pins:List (Addr×Obj)}{σ:St}{H:Hp}{s:Shared}{p:Addr}{xs:List V}(I:Inv X pins σ H s)(h:H p=some (.lst xs)):
  ∃(its:List Value)(n:Nat),aF xs its/\s.heap.get? p=some {cls:=.type "list",data:=.seq its.toArray n}/\xs.length<=sizeLine:=by
 obtain⟨z,its,n,r,e⟩:=I.ax p _ h
 exact⟨its,n,r,e,z⟩
theorem Gz(lo hi:Option Int)(n:Nat):(sliceBounds lo hi none n).1=((HT.d8 n 0 lo:Nat):Int)/\(sliceBounds lo hi none n).2.1=((HT.d8 n n hi:Nat):Int)/\(sliceBounds lo hi none n).2.2=1:=by
 refine⟨?_,?_,rfl⟩
 ·cases lo with
  |none=>simp[sliceBounds,HT.d8]
  |some i=>
   simp only[sliceBounds,HT.d8,Option.getD_none,show(1:Int)>0 by decide,if_true]
   by_cases h:i<0
   ·simp only[h,if_true]<;>omega
   ·simp only[h,if_false]<;>omega
 ·cases hi with
  |none=>simp[sliceBounds,HT.d8]
  |some i=>
   simp only[sliceBounds,HT.d8,Option.getD_none,show(1:Int)>0 by decide,if_true]
   by_cases h:i<0
   ·simp only[h,if_true]<;>omega
   ·simp only[h,if_false]<;>omega
theorem LW(its:List Value)(lo hi:Option Int):slicePick its.toArray lo hi none=((its.drop (HT.d8 its.length 0 lo)).take (HT.d8 its.length its.length hi-HT.d8 its.length 0 lo)).toArray:=by
 obtain⟨h1,h2,h3⟩:=Gz lo hi its.toArray.size
 unfold slicePick
 rw[h1,h2,h3]
 simp only[sliceRange_one,pick_run,List.size_toArray]<;>rfl
def yf(K:PySem.W.Frag):V->Option Int->Option Int->Hp->VK->Prop:=fun x lo hi H Q=>∃a xs,x=.ref a/\aO K H a xs/\∀p,H p=none->Q (.ref p) (upd H p (.lst (jk xs lo hi)))
theorem B9:m7 X (yf X.K):=by
 intro pins s σ H x v vl vu lo hi sl Q I rx hs pl pu h
 obtain⟨a,xs,rfl,hx,q⟩:=h
 cases rx
 obtain⟨its,r,ht,hz⟩:=I.list hx
 have hlen:=r.length
 refine⟨"list",_,slot_list_getitem.lookup,ht.isList.typeIs,?_⟩
 refine wpAny_getItem_list_slice ht.isList hs pl pu .none (by simp) ?_ (by rw[List.size_toArray]<;>omega)
 rw[LW,<-hlen]
 refine⟨.ref s.heap.objs.size,_,I.laid (t':=s.toks) (o:=.lst (jk xs lo hi)) (fun b ob q=>Heap.get?_push_of_some _ q) (Nat.le_refl _) ?_,rfl,q _ (I.ax.fresh (Nat.le_refl _))⟩
 exact⟨Nat.le_trans (Mr xs lo hi) hz,_,0,(r.drop (HT.d8 xs.length 0 lo)).take (HT.d8 xs.length xs.length hi-HT.d8 xs.length 0 lo),Heap.get?_push_size _ rfl⟩
def iI:V->Bool
 | .aw=>true
 | .bl _=>true
 | .int _=>true
 | .str _=>true
 |_=>false
def jv:V->V->Bool
 | .aw,.aw=>true
 | .bl a,.bl b=>a==b
 | .bl a,.int b=>(if a then 1 else 0)==b
 | .int a,.bl b=>a==(if b then 1 else 0)
 | .int a,.int b=>a==b
 | .str a,.str b=>a==b
 |_,_=>false
theorem Mj{A:Around}{s:Shared}{y x:V}{u v:Value}(ry:RelV y u)(rx:RelV x v)(fy:iI y=true)(fx:iI x=true):SeqAt.EqAt A s u v (jv y x):=by
 cases y with
 |aw=>
  cases ry
  cases x with
  |aw=>cases rx;exact SeqAt.EqAt.same _
  |bl b=>cases rx;exact SeqAt.EqAt.none_bool b
  |int b=>obtain⟨t,rfl⟩:=rx;exact SeqAt.EqAt.none_int b t
  |str b=>obtain⟨t,rfl⟩:=rx;exact SeqAt.EqAt.none_str b t
  |_=>exact absurd (show false=true from fx) Bool.false_ne_true
 |bl a=>
  cases ry
  cases x with
  |aw=>cases rx;exact SeqAt.EqAt.bool_none a
  |bl b=>cases rx;exact SeqAt.EqAt.bool_bool a b
  |int b=>obtain⟨t,rfl⟩:=rx;exact SeqAt.EqAt.bool_int a b t
  |str b=>obtain⟨t,rfl⟩:=rx;exact SeqAt.EqAt.bool_str a b t
  |_=>exact absurd (show false=true from fx) Bool.false_ne_true
 |int a=>
  obtain⟨t',rfl⟩:=ry
  cases x with
  |aw=>cases rx;exact SeqAt.EqAt.int_none a t'
  |bl b=>cases rx;exact SeqAt.EqAt.int_bool a t' b
  |int b=>obtain⟨t,rfl⟩:=rx;exact SeqAt.EqAt.int_int a t' b t
  |str b=>obtain⟨t,rfl⟩:=rx;exact SeqAt.EqAt.int_str a t' b t
  |_=>exact absurd (show false=true from fx) Bool.false_ne_true
 |str a=>
  obtain⟨t',rfl⟩:=ry
  cases x with
  |aw=>cases rx;exact SeqAt.EqAt.str_none a t'
  |bl b=>cases rx;exact SeqAt.EqAt.str_bool a t' b
  |int b=>obtain⟨t,rfl⟩:=rx;exact SeqAt.EqAt.str_int a t' b t
  |str b=>obtain⟨t,rfl⟩:=rx;exact SeqAt.EqAt.str_str a t' b t
  |_=>exact absurd (show false=true from fx) Bool.false_ne_true
 |_=>exact absurd (show false=true from fy) Bool.false_ne_true
def iG(x:V)(u:Value):Bool:=match u with
 | .none=>jv .aw x
 | .bool b=>jv (.bl b) x
 | .int i _=>jv (.int i) x
 | .str z _=>jv (.str z) x
 |_=>false
theorem AR{x y:V}{u:Value}(r:RelV y u)(f:iI y=true):iG x u=jv y x:=by
 cases y with
 |aw=>cases r;rfl
 |bl b=>cases r;rfl
 |int i=>obtain⟨t,rfl⟩:=r;rfl
 |str z=>obtain⟨t,rfl⟩:=r;rfl
 |_=>exact absurd (show false=true from f) Bool.false_ne_true
theorem wz{x:V}:∀{xs:List V}{us:List Value},aF xs us->xs.all iI=true->us.any (iG x)=xs.any fun y=>jv y x
 |_,_,.nil,_=>rfl
 |y::xs,u::us,.cons r t,f=>by
  rw[List.all_cons,Bool.and_eq_true]at f
  rw[List.any_cons,List.any_cons,AR r f.1,wz t f.2]
theorem vN{A:Around}{s:Shared}{x:V}{v:Value}(rx:RelV x v)(fx:iI x=true):∀{xs:List V}{us:List Value},aF xs us->xs.all iI=true->∀u∈us,SeqAt.EqAt A s u v (iG x u)
 |_,_,.nil,_=>fun u hu=>by cases hu
 |y::xs,u::us,.cons r t,f=>fun u' hu=>by
  rw[List.all_cons,Bool.and_eq_true]at f
  rcases List.mem_cons.mp hu with rfl|hu
  ·rw[AR r f.1];exact Mj r rx f.1 fx
  ·exact vN rx fx t f.2 u' hu
def dH(x:V)(xs:List V):Bool:=xs.any fun y=>jv y x
def Cc(K:PySem.W.Frag)(neg:Bool):R2:=fun x y H Q=>∃p xs,y=.ref p/\(aO K H p xs\/fo K H p xs)/\iI x=true/\xs.all iI=true/\Q (.bl (if neg then !dH x xs else dH x xs)) H
theorem pJ:cN X (compareOp .In) (Cc X.K false):=by
 intro pins s σ H x y v u Q I rx ry h
 obtain⟨p,xs,rfl,hq,fx,fs,q⟩:=h
 cases ry
 rcases hq with hq|hq
 ·obtain⟨its,r,pl,hz⟩:=I.list hq
  refine SeqAt.in_listAt (iG x) pl.isList (fun w hw=>vN rx fx r fs w (by simpa using hw)) ⟨.bl _,H,I,rfl,?_⟩
  rw[show its.toArray.any (iG x)=its.any (iG x) by simp,wz r fs]
  exact q
 ·obtain⟨its,r,pl,hz⟩:=I.tuple hq
  refine SeqAt.in_tupleAt (iG x) pl (fun w hw=>vN rx fx r fs w (by simpa using hw)) ⟨.bl _,H,I,rfl,?_⟩
  rw[show its.toArray.any (iG x)=its.any (iG x) by simp,wz r fs]
  exact q
theorem wN:gv X (.builtin "len") (fun xs H Q=>∃p ys,xs=[.ref p]/\(aO X.K H p ys\/fo X.K H p ys)/\Q (.int ys.length) H):=by
 intro pins s σ H xs us Q I r h
 obtain⟨p,ys,rfl,hq,q⟩:=h
 obtain⟨u,rfl,rx⟩:=vals1 r
 cases rx
 have hn:=rM
 rcases hq with hq|hq
 ·obtain⟨its,r',pl,hz⟩:=I.list hq
  have hlen:=r'.length
  exact Calls.call_len_list pl.isList (by simp only[List.size_toArray]<;>omega) ⟨.int ys.length,H,I.tok _,⟨s.toks+1,by rw[List.size_toArray,hlen]⟩,q⟩
 ·obtain⟨its,r',pl,hz⟩:=I.tuple hq
  have hlen:=r'.length
  exact len_tuple pl (by simp only[List.size_toArray]<;>omega) ⟨.int ys.length,H,I.tok _,⟨s.toks+1,by rw[List.size_toArray,hlen]⟩,q⟩
theorem Iq:gv X (.builtin "len") (fun xs H Q=>∃z,xs=[.str z]/\z.length<=sizeLine/\Q (.int z.length) H):=by
 intro pins s σ H xs us Q I r h
 obtain⟨z,rfl,hz,q⟩:=h
 obtain⟨u,rfl,t,rfl⟩:=vals1 r
 have hn:=rM
 exact len_str (by omega) ⟨.int z.length,H,I.tok _,⟨_,rfl⟩,q⟩
theorem gv.or{f:Value}{r r':List V->Hp->VK->Prop}(h:gv X f r)(h':gv X f r'):gv X f (fun xs H Q=>r xs H Q\/r' xs H Q):=by
 intro pins s σ H xs us Q I rs q
 rcases q with q|q
 ·exact h pins s σ H xs us Q I rs q
 ·exact h' pins s σ H xs us Q I rs q
def yX(K:PySem.W.Frag)(T:String)(x:V)(H:Hp):Prop:=match x with
 | .str _=>T="str"
 | .int _=>T="int"
 | .ref p=>(T="list"/\∃xs,aO K H p xs)\/(T="tuple"/\∃o,K.lookup p=some o/\o.cls=.type "tuple"/\o.dict=none)\/
   (T="dict"/\((∃kvs,H p=some (.dK kvs))\/∃kvs,H p=some (.dT kvs)))\/(T="set"/\∃S n,H p=some (.set S n))
 |_=>False
theorem KS{pins:List (Addr×Obj)}{σ:St}{H:Hp}{s:Shared}{T:String}{x:V}{v:Value}(I:Inv X pins σ H s)(r:RelV x v)(ty:yX X.K T x H):
  s.TypeIs v T/\∀a,v=.ref a->∃ob,s.heap.get? a=some ob/\ob.dict=none:=by
 cases x with
 |str z=>
  obtain⟨t,rfl⟩:=r
  cases (show T="str" from ty)
  exact⟨typeIs_str s z t,fun _ e=>nomatch e⟩
 |int i=>
  obtain⟨t,rfl⟩:=r
  cases (show T="int" from ty)
  exact⟨typeIs_int s i t,fun _ e=>nomatch e⟩
 |ref p=>
  cases r
  rcases ty with ⟨rfl,xs,hq⟩|⟨rfl,o,hk,hc,hd⟩|⟨rfl,hk⟩|⟨rfl,S,n,hk⟩
  ·obtain⟨its,_,pl,_⟩:=I.list hq
   refine⟨pl.isList.typeIs,fun a e=>?_⟩
   cases e
   obtain⟨o,n,e,c,hd,_⟩:=pl
   exact⟨o,e,hd⟩
  ·refine⟨⟨o,I.bh p o hk,hc⟩,fun a e=>?_⟩
   cases e
   exact⟨o,I.bh _ o hk,hd⟩
  ·have z:∃o,s.heap.get? p=some o/\o.ExactDict:=by
    rcases hk with ⟨kvs,hk⟩|⟨kvs,hk⟩
    ·obtain⟨_,_,_,_,o,_,_,e,ex,_⟩:=I.ax p _ hk
     exact⟨o,e,ex⟩
    ·obtain⟨_,_,_,_,o,_,_,e,ex,_⟩:=I.ax p _ hk
     exact⟨o,e,ex⟩
   obtain⟨o,e,ex⟩:=z
   refine⟨⟨o,e,ex.1⟩,fun a e2=>?_⟩
   cases e2
   exact⟨o,e,ex.2.1⟩
  ·obtain⟨o,_,_,_,e,ex,_⟩:=I.ax p _ hk
   refine⟨⟨o,e,ex.1⟩,fun a e2=>?_⟩
   cases e2
   exact⟨o,e,ex.2.1⟩
 |_=>exact False.elim ty
def JU(K:PySem.W.Frag)(T:String)(r:V->List V->Hp->VK->Prop)(to:TE)(t:TA):TE:=fun σ H Q=>to σ H fun x H1=>yX K T x H1/\t σ H1 fun xs H2=>r x xs H2 Q
variable {o e:Expr}{es:List Expr}{to:TE}{t:TA}{name:Str}{apos cpos:Pos}{T id:String}{r:V->List V->Hp->VK->Prop}
theorem dQ(pa:PlainAttrs T)(slot:Slot T name id)(hty:typeOf (.builtin id)=pure (.type "method_descriptor"))(hm:kI X id r)(ho:PE X o to)(ha:PA X (e::es) t)
  (hbase:attributeBase o name X.env (eval o X.env)=eval o X.env:=by rfl)
  (hfew:((backTo cpos (starEach (e::es) X.env)).all (fun x=> !x.1)&&(backToKw cpos (keywordEach [] X.env)).all (fun x=>x.1.isSome)
   &&decide ((e::es).length+([]:List Keyword).length+(if([]:List Keyword).isEmpty then 0 else 1)<30))=true:=by rfl)
  (hline:(apos.endLine==cpos.line)=true:=by rfl) (hs:starEach (e::es) X.env=(false,eval e X.env)::starEach es X.env:=by rfl) (hplain:(backTo cpos (starEach es X.env)).any (·.1)=false:=by rfl):
  PE X (.Call (.Attribute o name apos) (e::es) [] cpos) (JU X.K T r to t):=by
 intro pins s σ H Q I h
 refine wpAny_Call_method_late hbase hfew hline rfl (aJ (ho pins s σ H _ I h) fun v s1⟨x,H1,I1,r1,ty,q1⟩=>?_)
 obtain⟨h1,h2⟩:=KS I1 r1 ty
 refine⟨T,id,pa,slot,hty,h1,h2,?_⟩
 have hA:=ha cpos pins s1 σ H1 _ I1 q1
 rw[hs]at hA ⊢
 refine Calls.callWith_builtin (by show(false||(backTo cpos (starEach es X.env)).any (·.1))=false;rw[hplain]<;>rfl) (Calls.evalArgs_plain ?_)
 exact aJ hA fun us s2⟨vs,H2,I2,r2,q2⟩=>hm pins s2 σ H2 x vs v us Q I2 r1 r2 q2
end
end L2
namespace L2
open PySem PySem.Spec PyProof.Rows
def Bl(X:Cx)(id:String)(r:V->List V->Hp->VK->Prop):Prop:=
 ∀(pins:List (Addr×Obj))(s:Shared)(σ:St)(H:Hp)(x:V)(xs:List V)(v:Value)(us:List Value)(Q:VK),Inv X pins σ H s->RelV x v->aF xs us->r x xs H Q->
  wpAny (model X.prog X.w) X.A (call (.builtin id) (v::us)) (EP X pins σ Q) X.xe s
theorem aF.one:∀{x:V}{us:List Value},aF [x] us->∃u,us=[u]/\RelV x u
 |_,_,.cons r .nil=>⟨_,rfl,r⟩
theorem aF.two:∀{x y:V}{us:List Value},aF [x,y] us->∃u v,us=[u,v]/\RelV x u/\RelV y v
 |_,_,_,.cons r (.cons q .nil)=>⟨_,_,rfl,r,q⟩
theorem aF.zero:∀{us:List Value},aF [] us->us=[]
 |_,.nil=>rfl
section
variable {X:Cx}{pins:List (Addr×Obj)}{σ:St}{H:Hp}{s:Shared}{l b:Addr}{xs ys zs:List V}
theorem Inv.zW{its its':List Value}{n:Nat}{f:Array Value->Array Value}{t':Nat}(I:Inv X pins σ H s)(hH:H l=some (.lst xs))
  (e:s.heap.get? l=some {cls:=.type "list",data:=.seq its.toArray n}) (hf:f its.toArray=its'.toArray) (hv:aF ys its') (hz:ys.length<=sizeLine):
  Inv X pins σ (upd H l (.lst ys)) {s with heap:=s.heap.update l (Obj.mapSeq f),toks:=t'}:=by
 have q:=PySem.IsL.update e f
 rw[hf]at q
 refine I.write (x:=l) (e:=l) (by rw[hH];exact trivial) (.inl rfl) (fun b' u hb hu=>(Heap.get?_update_other s.heap (Obj.mapSeq f) (Ne.symm hb)).trans hu) ⟨_,q⟩ ?_
 exact⟨hz,its',_,hv,q⟩
theorem Inv.fresh(I:Inv X pins σ H s):H s.heap.objs.size=none:=I.ax.fresh (Nat.le_refl _)
theorem Inv.vc(I:Inv X pins σ H s)(hH:H l=some (.lst xs)):xs.length<=sizeLine/\∃(its:List Value)(n:Nat),aF xs its/\xs.length=its.length/\s.heap.get? l=some {cls:=.type "list",data:=.seq its.toArray n}:=by
 obtain⟨z,its,n,r,e⟩:=I.ax l _ hH
 exact⟨z,its,n,r,r.length,e⟩
theorem Hh{n:Nat}(h:n<=sizeLine):Builtin.List.listTooLong n=false:=by
 unfold Builtin.List.listTooLong
 exact decide_eq_false (by omega)
end
section
variable {X:Cx}
def Mc:V->List V->Hp->VK->Prop:=fun x vs H Q=>∃l xs y,x=.ref l/\vs=[y]/\H l=some (.lst xs)/\xs.length<sizeLine/\Q .aw (upd H l (.lst (xs++[y])))
theorem fU:Bl X "list.append" Mc:=by
 intro pins s σ H x vs v us Q I rx rv h
 obtain⟨l,xs,y,rfl,rfl,hH,hz,q⟩:=h
 cases rx
 obtain⟨u,rfl,ru⟩:=rv.one
 obtain⟨z,its,n,r,hl,e⟩:=I.vc hH
 refine call_meets F.slot_list_append ⟨_,e,rfl⟩ F.entry_list_append (F.args_list_append_2 _ _) (PySem.list_append l its.toArray n u (by rw[List.size_toArray];omega)) ⟨e,?_⟩
 refine⟨.aw,_,I.zW (its':=its++[u]) hH e (by simp) (r.append (.cons ru .nil)) ?_,rfl,q⟩
 rw[List.length_append,List.length_singleton]
 omega
def Lm:V->List V->Hp->VK->Prop:=fun x vs H Q=>∃l b xs zs,x=.ref l/\vs=[.ref b]/\H l=some (.lst xs)/\H b=some (.lst zs)/\xs.length+zs.length<=sizeLine/\Q .aw (upd H l (.lst (xs++zs)))
theorem nX:Bl X "list.extend" Lm:=by
 intro pins s σ H x vs v us Q I rx rv h
 obtain⟨l,b,xs,zs,rfl,rfl,hH,hB,hz,q⟩:=h
 cases rx
 obtain⟨u,rfl,ru⟩:=rv.one
 cases ru
 obtain⟨z,its,n,r,hl,e⟩:=I.vc hH
 obtain⟨z2,its2,n2,r2,hl2,e2⟩:=I.vc hB
 have hsz:its.toArray.size+its2.toArray.size<=sizeLine:=by rw[List.size_toArray,List.size_toArray];omega
 have hlong:¬(!its.toArray.isEmpty&&Builtin.List.listTooLong (its.toArray.size+its2.toArray.size))=true:=by
  rw[Hh hsz,Bool.and_false]
  exact Bool.false_ne_true
 refine call_meets F.slot_list_extend ⟨_,e,rfl⟩ F.entry_list_extend (F.args_list_extend_2 _ _)
  (AutoSeq1.list_extend_list_list_0 l its.toArray n b its2.toArray n2 hlong (by rw[List.size_toArray];omega) (by omega)) ⟨e,e2,?_⟩
 refine⟨.aw,_,I.zW (its':=its++its2) hH e (by simp) (r.append r2) ?_,rfl,q⟩
 rw[List.length_append]
 omega
end
section
variable {prog:Program}{w:World}{A:Around}{E:Value->Shared->Prop}{s:Shared}
set_option maxRecDepth 100000 in
end
section
variable {X:Cx}
end
end L2
namespace L2
open PySem PySem.Spec PyProof.Rows
theorem aF.ints:∀{ns:List Int}{us:List Value},aF (ns.map V.int) us->IntsAre us ns
 |[],us,h=>by
  rw[List.map_nil]at h
  cases h
  exact IntsAre.nil
 |n::ns,us,h=>by
  rw[List.map_cons]at h
  cases h with
  |cons r t=>
   obtain⟨k,rfl⟩:=r
   exact IntsAre.cons n k (aF.ints t)
theorem aF.strs:∀{xs:List Str}{us:List Value},aF (xs.map V.str) us->StrsAre us xs
 |[],us,h=>by
  rw[List.map_nil]at h
  cases h
  exact StrsAre.nil
 |x::xs,us,h=>by
  rw[List.map_cons]at h
  cases h with
  |cons r t=>
   obtain⟨k,rfl⟩:=r
   exact StrsAre.cons x k (aF.strs t)
section
variable {prog:Program}{w:World}{A:Around}{E:Value->Shared->Prop}{s:Shared}{l:Addr}{its:List Value}{ns:List Int}{Q:Value->Shared->Prop}
end
section
variable {X:Cx}
def cg(K:PySem.W.Frag):List V->Hp->VK->Prop:=fun vs H Q=>∃(a:Addr)(ns:List Int),vs=[V.ref a]/\aO K H a (ns.map V.int)/\Q (.int ns.sum) H
end
section
variable {X:Cx}
end
section
variable {X:Cx}
end
section
variable {X:Cx}
end
mutual
inductive Dp(K:PySem.W.Frag)(H:Hp):V->PyData->Prop
 |aw:Dp K H .aw .none
 |bl (b:Bool):Dp K H (.bl b) (.bool b)
 |int (i:Int):Dp K H (.int i) (.int i)
 |str (x:Str):Dp K H (.str x) (.str x)
 |lst {a:Addr} {xs:List V} {ds:List PyData}:aO K H a xs->lF K H xs ds->Dp K H (.ref a) (.list ds)
 |tup {a:Addr} {xs:List V} {ds:List PyData}:fo K H a xs->lF K H xs ds->Dp K H (.ref a) (.tuple ds)
inductive lF(K:PySem.W.Frag)(H:Hp):List V->List PyData->Prop
 |nil:lF K H [] []
 |cons {v:V} {vs:List V} {d:PyData} {ds:List PyData}:Dp K H v d->lF K H vs ds->lF K H (v::vs) (d::ds)
end
section
variable {X:Cx}{pins:List (Addr×Obj)}{σ:St}{H:Hp}{s:Shared}
mutual
theorem Dp.reads(I:Inv X pins σ H s):∀(d:PyData)(v:V)(u:Value),Dp X.K H v d->RelV v u->∃as,Reads s.heap u d as
 | .none,_,_,h,r=>by
  cases h
  cases r
  exact⟨_,Reads.none⟩
 | .bool b,_,_,h,r=>by
  cases h
  cases r
  exact⟨_,Reads.bool b⟩
 | .int i,_,_,h,r=>by
  cases h
  obtain⟨t,rfl⟩:=r
  exact⟨_,Reads.int i t⟩
 | .str x,_,_,h,r=>by
  cases h
  obtain⟨t,rfl⟩:=r
  exact⟨_,Reads.str x t⟩
 | .list ds,_,_,h,r=>by
  cases h with
  |lst hs ha=>
   cases r
   obtain⟨its,rv,⟨o,n,ho,hc,_,hd⟩,_⟩:=I.list hs
   obtain⟨as,hr⟩:=Dp.readsAll I ds _ its ha rv
   exact⟨_,Reads.list ho hc hd hr⟩
 | .tuple ds,_,_,h,r=>by
  cases h with
  |tup hs ha=>
   cases r
   obtain⟨its,rv,⟨o,ho,hc,n,hd⟩,_⟩:=I.tuple hs
   obtain⟨as,hr⟩:=Dp.readsAll I ds _ its ha rv
   exact⟨_,Reads.tuple ho hc hd hr⟩
 | .dict _,_,_,h,_=>by cases h
theorem Dp.readsAll(I:Inv X pins σ H s):∀(ds:List PyData)(vs:List V)(us:List Value),lF X.K H vs ds->aF vs us->∃as,ReadsAll s.heap us ds as
 |[],_,_,h,r=>by
  cases h
  cases r
  exact⟨_,ReadsAll.nil⟩
 |d::ds,_,_,h,r=>by
  cases h with
  |cons h1 h2=>
   cases r with
   |cons r1 r2=>
    obtain⟨as,q1⟩:=Dp.reads I d _ _ h1 r1
    obtain⟨bs,q2⟩:=Dp.readsAll I ds _ _ h2 r2
    exact⟨_,ReadsAll.cons q1 q2⟩
end
end
section
variable {X:Cx}
end
end L2
namespace L2
open PySem PySem.Spec PyProof.Rows
abbrev BB(h:Heap)(c:Addr)(v:Option Value):Prop:=h.IsCell c v
def HN(scope sc:Scope):Scope:=
 {scope with names:=scope.names.map fun(n,k)=>if(k== .free&&sc.kind== .function&&sc.names.lookup n==some .cell)then(n,.cell)else(n,k)}
def c9(cells:List (Str×Addr)):List (Str×NameKind)->List (Str×Addr)->List (Str×Addr)
 |[],acc=>acc
 |(n,k)::r,acc=>if k== .free then c9 cells r ((n,(cells.lookup n).getD 0)::acc)else c9 cells r acc
theorem BJ(env:Env)(f:Str×NameKind->List (Str×Addr)->Sem (ForInStep (List (Str×Addr))))
  (hf:∀n k c,f (n,k) c=if k== .free then(do let a <-cellOf env n;pure (.yield ((n,a)::c)))else pure (.yield c)):
  ∀(names:List (Str×NameKind))(acc:List (Str×Addr)),(∀y∈names,y.2=.free->∃c,env.cells.lookup y.1=some c)->forIn names acc f=pure (c9 env.cells names acc)
 |[],acc,_=>by rw[List.forIn_nil];rfl
 |(n,k)::r,acc,h=>by
  rw[List.forIn_cons,hf]
  have ih:=fun acc=>BJ env f hf r acc fun y hy=>h y (List.mem_cons_of_mem _ hy)
  unfold c9
  by_cases hk:(k==NameKind.free)=true
  ·rw[if_pos hk,if_pos hk]
   obtain⟨c,hc⟩:=h (n,k) List.mem_cons_self (by simpa using hk)
   have e:cellOf env n=pure c:=by unfold cellOf;rw[hc]
   rw[e]
   have e2:(env.cells.lookup n).getD 0=c:=by rw[hc];rfl
   rw[e2]
   exact ih _
  ·rw[if_neg hk,if_neg hk]
   exact ih _
theorem FY{scope:Scope}{env:Env}(h:∀y∈scope.names,y.2=.free->∃c,env.cells.lookup y.1=some c):closureFor scope env=pure (c9 env.cells scope.names []):=by
 simp only[closureFor]
 rw[BJ env _ (fun n k c=>rfl) scope.names [] h]
 rfl
theorem mem_lookup{α:Type}:∀{l:List (Str×α)}{n:Str}{c:α},(n,c)∈l->∃c',l.lookup n=some c'
 |(k,v)::r,n,c,h=>by
  rw[List.lookup_cons]
  cases hb:n==k with
  |true=>exact⟨_,rfl⟩
  |false=>
   rcases List.mem_cons.mp h with e|h
   ·cases e;simp at hb
   ·exact mem_lookup h
theorem tJ{cells:List (Str×Addr)}:∀{names:List (Str×NameKind)}{acc:List (Str×Addr)}{n:Str}{c:Addr},(n,c)∈c9 cells names acc->(n,c)∈acc\/((n,.free)∈names/\c=(cells.lookup n).getD 0)
 |[],_,_,_,h=>.inl h
 |(m,k)::r,acc,n,c,h=>by
  unfold c9 at h
  split at h
  ·rename_i hk
   have hk:k=.free:=by simpa using hk
   rcases tJ h with h|⟨h1,h2⟩
   ·rcases List.mem_cons.mp h with e|h
    ·cases e;exact .inr ⟨hk▸List.mem_cons_self,rfl⟩
    ·exact .inl h
   ·exact .inr ⟨List.mem_cons_of_mem _ h1,h2⟩
  ·rcases tJ h with h|⟨h1,h2⟩
   ·exact .inl h
   ·exact .inr ⟨List.mem_cons_of_mem _ h1,h2⟩
theorem uj{cells:List (Str×Addr)}:∀{names:List (Str×NameKind)}{acc:List (Str×Addr)}{p:Str×Addr},p∈acc->p∈c9 cells names acc
 |[],_,_,h=>h
 |(m,k)::r,acc,p,h=>by
  unfold c9
  split
  ·exact uj (List.mem_cons_of_mem _ h)
  ·exact uj h
theorem xM{cells:List (Str×Addr)}:∀{names:List (Str×NameKind)}{acc:List (Str×Addr)}{n:Str},(n,.free)∈names->(n,(cells.lookup n).getD 0)∈c9 cells names acc
 |(m,k)::r,acc,n,h=>by
  unfold c9
  rcases List.mem_cons.mp h with e|h
  ·cases e
   exact uj List.mem_cons_self
  ·split
   ·exact xM h
   ·exact xM h
theorem n0:∀{names:List (Str×NameKind)}{h:Heap}{acc:List (Str×Addr)}{x:Str}{c:Addr},(x,c)∈cellsFrom h.objs.size names acc->
  (x,c)∈acc\/((x,.cell)∈names/\h.objs.size<=c/\BB (pushCells h names) c none)
 |[],_,_,_,_,h=>.inl h
 |(n,k)::r,h,acc,x,c,hm=>by
  unfold cellsFrom at hm
  unfold pushCells
  split at hm
  ·rename_i hk
   rw[if_pos hk]
   have hk:k=.cell:=by simpa using hk
   rw[<-Heap.size_push h {cls:=.type "cell",data:=.cell none}]at hm
   rcases n0 hm with hm|⟨h1,h2,h3⟩
   ·rcases List.mem_cons.mp hm with e|hm
    ·cases e
     exact .inr ⟨hk▸List.mem_cons_self,Nat.le_refl _,_,pushCells_keeps r _ _ _ (Heap.get?_push_size _ rfl),rfl⟩
    ·exact .inl hm
   ·rw[Heap.size_push]at h2
    exact .inr ⟨List.mem_cons_of_mem _ h1,Nat.le_of_succ_le h2,h3⟩
  ·rename_i hk
   rw[if_neg hk]
   rcases n0 hm with hm|⟨h1,h2,h3⟩
   ·exact .inl hm
   ·exact .inr ⟨List.mem_cons_of_mem _ h1,h2,h3⟩
theorem rQ:∀{names:List (Str×NameKind)}{n:Nat}{acc:List (Str×Addr)}{p:Str×Addr},p∈acc->p∈cellsFrom n names acc
 |[],_,_,_,h=>h
 |(m,k)::r,n,acc,p,h=>by
  unfold cellsFrom
  split
  ·exact rQ (List.mem_cons_of_mem _ h)
  ·exact rQ h
theorem xI:∀{names:List (Str×NameKind)}{n:Nat}{acc:List (Str×Addr)}{x:Str},(x,.cell)∈names->∃c,(x,c)∈cellsFrom n names acc
 |(m,k)::r,n,acc,x,h=>by
  unfold cellsFrom
  rcases List.mem_cons.mp h with e|h
  ·cases e
   exact⟨n,rQ List.mem_cons_self⟩
  ·split
   ·exact xI h
   ·exact xI h
theorem xH:∀{names:List (Str×NameKind)}{h:Heap}{acc:List (Str×Addr)}{x y:Str}{c:Addr},(∀p∈acc,p.2<h.objs.size)->(∀x y c,(x,c)∈acc->(y,c)∈acc->x=y)->
  (x,c)∈cellsFrom h.objs.size names acc->(y,c)∈cellsFrom h.objs.size names acc->x=y
 |[],_,_,_,_,_,_,hi,h1,h2=>hi _ _ _ h1 h2
 |(n,k)::r,h,acc,x,y,c,hl,hi,h1,h2=>by
  unfold cellsFrom at h1 h2
  split at h1
  ·rename_i hk
   rw[if_pos hk]at h2
   rw[<-Heap.size_push h {cls:=.type "cell",data:=.cell none}]at h1 h2
   refine xH (h:=h.push _) (fun p hp=>?_) (fun x y c a b=>?_) h1 h2
   ·rw[Heap.size_push]
    rcases List.mem_cons.mp hp with rfl|hp
    ·exact Nat.lt_succ_self _
    ·exact Nat.lt_succ_of_lt (hl p hp)
   ·rcases List.mem_cons.mp a with e|a<;>rcases List.mem_cons.mp b with e'|b
    ·cases e;cases e';rfl
    ·cases e;exact absurd (hl _ b) (Nat.lt_irrefl _)
    ·cases e';exact absurd (hl _ a) (Nat.lt_irrefl _)
    ·exact hi _ _ _ a b
  ·rename_i hk
   rw[if_neg hk]at h2
   exact xH hl hi h1 h2
theorem GA{M:Model}{A:Around}{E:Value->Shared->Prop}{s:Shared}{scope:Scope}{globals:Addr}{closure:List (Str×Addr)}{qual:Str}{func:Option Addr}{code:Value}{around:Env}{builtins:Addr}{Q:Env->Shared->Prop}
  (h:Q (newEnv scope s.heap.objs.size globals (cellsFrom (s.heap.objs.size+1) scope.names closure) qual func code (some around) builtins)
   {s with heap:=pushCells (s.heap.push {cls:=.type "dict",data:=.dict #[]}) scope.names}):
  wpAny M A (newFunctionEnv scope globals closure [] qual func code (some around) builtins) Q E s:=by
 simp only[newFunctionEnv,Option.isSome_some,if_true]
 refine wpAny_bind (wpAny_alloc ?_)
 refine wpAny_bind (wpAny_layCells _ (fun n k c=>rfl) scope.names closure _ _ ?_)
 rw[show({s with heap:=s.heap.push {cls:=.type "dict",data:=.dict #[]}}:Shared).heap.objs.size=s.heap.objs.size+1 from Heap.size_push ..]
 rw[List.forIn_nil]
 exact wpAny_bind (wpAny_pure (wpAny_pure h))
theorem vn{sc:Scope}:∀{names:List (Str×NameKind)}{x:Str}{k:NameKind},
  (names.map fun(n,k)=>if(k==NameKind.free&&sc.kind== .function&&sc.names.lookup n==some .cell)then(n,NameKind.cell)else(n,k)).lookup x=some k->
  ∃k',names.lookup x=some k'/\(k=k'\/(k'=.free/\k=.cell))
 |[],_,_,h=>by simp at h
 |(n,k₀)::r,x,k,h=>by
  have ih:= @vn sc r x k
  have h':List.lookup x ((if(k₀==NameKind.free&&sc.kind== .function&&sc.names.lookup n==some .cell)=true then(n,NameKind.cell)else(n,k₀))::(r.map _))=some k:=h
  cases hx:x==n with
  |true=>
   simp only[List.lookup_cons,hx]
   by_cases hc:(k₀==NameKind.free&&sc.kind== .function&&sc.names.lookup n==some .cell)=true
   ·rw[if_pos hc]at h'
    simp only[List.lookup_cons,hx]at h'
    cases h'
    simp only[Bool.and_eq_true,beq_iff_eq]at hc
    exact⟨k₀,rfl,.inr ⟨hc.1.1,rfl⟩⟩
   ·rw[if_neg hc]at h'
    simp only[List.lookup_cons,hx]at h'
    cases h'
    exact⟨_,rfl,.inl rfl⟩
  |false=>
   simp only[List.lookup_cons,hx]
   by_cases hc:(k₀==NameKind.free&&sc.kind== .function&&sc.names.lookup n==some .cell)=true
   ·rw[if_pos hc]at h'
    simp only[List.lookup_cons,hx]at h'
    exact ih h'
   ·rw[if_neg hc]at h'
    simp only[List.lookup_cons,hx]at h'
    exact ih h'
structure o3(N:List Str)(sc scope:Scope)(own:List (Str×Nat)):Prop where
 kind:scope.kind=.function
 uniq:∀y∈scope.names,scope.names.lookup y.1=some y.2
 ix:∀p∈own,N[p.2]? =some p.1
 free:∀y∈scope.names,y.2=.free->sc.names.lookup y.1=some .cell\/sc.names.lookup y.1=some .free
 own:∀y∈scope.names,y.2=.local\/y.2=.cell->y.1∈own.map (·.1)\/y.1∉N
def wipe(σ:St):List Nat->St
 |[]=>σ
 |v::vs=>(wipe σ vs).set v none
theorem wQ(σ:St):∀vs:List Nat,(wipe σ vs).length=σ.length
 |[]=>rfl
 |v::vs=>by unfold wipe;rw[List.length_set,wQ σ vs]
theorem wZ{σ:St}{i:Nat}{x:V}:∀{vs:List Nat},(wipe σ vs)[i]? =some (some x)->σ[i]? =some (some x)/\i∉vs
 |[],h=>⟨h,by simp⟩
 |v::vs,h=>by
  unfold wipe at h
  by_cases hi:v=i
  ·subst hi
   by_cases hv:v<(wipe σ vs).length
   ·rw[List.getElem?_set_self hv]at h;cases h
   ·rw[List.getElem?_eq_none (by simpa using hv)]at h;cases h
  ·rw[List.getElem?_set_ne hi]at h
   obtain⟨h1,h2⟩:=wZ h
   exact⟨h1,by simp only[List.mem_cons,not_or];exact⟨fun e=>hi e.symm,h2⟩⟩
abbrev Cx.ef(X:Cx)(s:Shared)(H:Hp)(scope:Scope)(cenv:Env)(fp:List Addr):Cx:={X with bX:=s,mY:=H,env:=cenv,outer:=X.stack,ex:=fp,fn:=fun x=>scope.names.lookup x==some .cell,pn:=[],xe:=fun _ _=>False}
section
variable {X:Cx}{pins:List (Addr×Obj)}{σ:St}{H:Hp}{s:Shared}
theorem E5{scope:Scope}{own:List (Str×Nat)}{fp:List Addr}(I:Inv X pins σ H s)(ok:o3 X.N X.env.scope scope own)(hN:X.N.Nodup)(hfp:∀b∈fp,ig X pins H b/\b<s.heap.objs.size):
  Inv (X.ef s H scope (compEnvC scope (cellsFrom (s.heap.objs.size+1) scope.names (c9 X.env.cells scope.names [])) s.heap.objs.size X.env) fp) [] (wipe σ (own.map (·.2))) H {s with heap:=pushCells (s.heap.push {cls:=.type "dict",data:=.dict #[]}) scope.names}:=by
 have hfree:∀y∈scope.names,y.2=.free->∃c,X.env.cells.lookup y.1=some c:=fun y hy e=>by
  rcases ok.free y hy e with k|k
  ·exact I.ok.has _ (.inl k)
  ·exact I.ok.has _ (.inr k)
 generalize hcenv:compEnvC scope (cellsFrom (s.heap.objs.size+1) scope.names (c9 X.env.cells scope.names [])) s.heap.objs.size X.env=cenv
 have kp:∀b o,s.heap.get? b=some o->(pushCells (s.heap.push {cls:=.type "dict",data:=.dict #[]}) scope.names).get? b=some o:=fun b o e=>pushCells_keeps _ _ _ _ (Heap.get?_push_of_some _ e)
 have hL:cenv.locals=s.heap.objs.size:=by rw[<-hcenv];rfl
 have hcl:cenv.cells=cellsFrom (s.heap.objs.size+1) scope.names (c9 X.env.cells scope.names []):=by rw[<-hcenv];rfl
 have hsc:cenv.scope=HN scope X.env.scope:=by rw[<-hcenv];rfl
 rw[<-Heap.size_push s.heap {cls:=.type "dict",data:=.dict #[]}]at hcl
 have cm:∀{y c},(y,c)∈c9 X.env.cells scope.names []->X.env.cells.lookup y=some c/\c<s.heap.objs.size:=fun{y c}hm=>by
  rcases tJ hm with hm|⟨h1,rfl⟩
  ·cases hm
  ·obtain⟨c,hc⟩:=hfree _ h1 rfl
   rw[hc]
   obtain⟨w,z⟩:=I.cell _ _ hc
   exact⟨rfl,z.lt⟩
 have mem:∀{y c},cenv.cells.lookup y=some c->(X.env.cells.lookup y=some c/\c<s.heap.objs.size)\/(s.heap.objs.size+1<=c/\BB (pushCells (s.heap.push {cls:=.type "dict",data:=.dict #[]}) scope.names) c none):=fun{y c}e=>by
  rw[hcl]at e
  rcases n0 (PySem.mem_of_lookup e)with hm|⟨_,h2,h3⟩
  ·exact .inl (cm hm)
  ·rw[Heap.size_push]at h2;exact .inr ⟨h2,h3⟩
 have look:∀{y},scope.names.lookup y=some .free->∃c,cenv.cells.lookup y=some c/\X.env.cells.lookup y=some c:=fun{y}hl=>by
  have hy:(y,NameKind.free)∈scope.names:=PySem.mem_of_lookup hl
  obtain⟨c',e'⟩:=mem_lookup (rQ (names:=scope.names) (n:=(s.heap.push {cls:=.type "dict",data:=.dict #[]}).objs.size) (xM (cells:=X.env.cells) (acc:=[]) hy))
  rw[<-hcl]at e'
  refine⟨c',e',?_⟩
  rw[hcl]at e'
  rcases n0 (PySem.mem_of_lookup e')with hm|⟨h1,_,_⟩
  ·exact(cm hm).1
  ·have:=ok.uniq _ h1
   rw[hl]at this;cases this
 have okB:(X.ef s H scope cenv fp).Ok:=by
  refine⟨I.ok.mod,by show cenv.scope.kind=_;rw[hsc];exact ok.kind,by show cenv.globals=_;rw[<-hcenv];exact I.ok.glob,by show cenv.builtins=_;rw[<-hcenv];exact I.ok.blt,by show s.heap.objs.size<=cenv.locals;rw[hL];exact Nat.le_refl _,
   fun y z c e1 e2=>?_,fun y hy=>?_,fun y c z e=>?_,I.ok.hd,I.ok.frames,.inl rfl,fun b hb=>⟨?_,fun y c e z=>?_⟩,I.bs,Nat.le_trans I.ok.dR I.sz,fun b o e hb=>?_,fun b hb z=>?_,I.stack,I.r9⟩
  ·have e1:cenv.cells.lookup y=some c:=e1
   have e2:cenv.cells.lookup z=some c:=e2
   rw[hcl]at e1 e2
   refine xH (fun p hp=>?_) (fun y z c a b=>I.ok.inj y z c (cm a).1 (cm b).1) (PySem.mem_of_lookup e1) (PySem.mem_of_lookup e2)
   rw[Heap.size_push]
   exact Nat.lt_succ_of_lt (cm (y:=p.1) (c:=p.2) hp).2
  ·show ∃c,cenv.cells.lookup y=some c
   have key:∀k,cenv.kindOf y=some k->(k=.cell\/k=.free)->∃c,cenv.cells.lookup y=some c:=fun k hk hk'=>by
    unfold Env.kindOf at hk
    rw[hsc]at hk
    obtain⟨k',e,r⟩:=vn hk
    have:k'=.cell\/k'=.free:=by
     rcases r with rfl|⟨rfl,_⟩
     ·exact hk'
     ·exact .inr rfl
    rcases this with rfl|rfl
    ·obtain⟨c,hm⟩:=xI (n:=(s.heap.push {cls:=.type "dict",data:=.dict #[]}).objs.size) (acc:=c9 X.env.cells scope.names []) (PySem.mem_of_lookup e)
     obtain⟨c',e'⟩:=mem_lookup hm
     exact⟨c',by rw[hcl];exact e'⟩
    ·obtain⟨c,h1,_⟩:=look e
     exact⟨c,h1⟩
   rcases hy with hy|hy
   ·exact key _ hy (.inl rfl)
   ·exact key _ hy (.inr rfl)
  ·have z:(scope.names.lookup y==some NameKind.cell)=true:=z
   have z:scope.names.lookup y=some .cell:=by simpa using z
   have e:cenv.cells.lookup y=some c:=e
   rw[hcl]at e
   rcases n0 (PySem.mem_of_lookup e)with hm|⟨_,h2,_⟩
   ·rcases tJ hm with hm|⟨h1,_⟩
    ·cases hm
    ·have q:=ok.uniq _ h1
     rw[z]at q;cases q
   ·rw[Heap.size_push]at h2
    exact Nat.le_of_succ_le h2
  ·show b≠cenv.locals
   rw[hL];exact Nat.ne_of_lt (hfp b hb).2
  ·have e:cenv.cells.lookup y=some c:=e
   rcases mem e with ⟨h1,_⟩|⟨h1,_⟩
   ·exact(hfp b hb).1.2.2.2.2.1 y c h1 z
   ·have h2:s.heap.objs.size+1<=b:=by rw[<-z];exact h1
    exact absurd (Nat.lt_of_lt_of_le (hfp b hb).2 (Nat.le_of_succ_le h2)) (Nat.lt_irrefl _)
  ·rcases(hfp b hb).1.2.2.2.1 with z|z
   ·exact I.ok.ic b o e z
   ·exact absurd (Nat.lt_of_lt_of_le (Heap.lt_size e) (Nat.le_trans I.ok.dR z)) (Nat.lt_irrefl _)
  ·rcases List.mem_cons.mp (I.xJ b z)with z|z
   ·exact(hfp b hb).1.2.1 z
   ·exact(hfp b hb).1.2.2.1 z
 refine⟨okB,rfl,I.bare,Un.kept kp,⟨fun _=>none,?_,fun i y av e1 e2 e3=>?_⟩,fun y c e=>?_,?_,fun y c e=>?_,fun p hp=>?_,I.ax.kept kp,by rw[wQ];exact I.len⟩
 ·show Heap.Ns _ cenv.locals _
  rw[hL]
  exact Heap.Ns.keeps (Heap.Ns.new ..) fun b o e=>pushCells_keeps _ _ _ _ e
 ·obtain⟨e2,hne⟩:=wZ e2
  have hfr:scope.names.lookup y=some .free/\(cenv.kindOf y=some .cell\/cenv.kindOf y=some .free):=by
   have key:∀k,cenv.scope.names.lookup y=some k->k=.local\/k=.cell\/k=.free->scope.names.lookup y=some .free/\(cenv.kindOf y=some .cell\/cenv.kindOf y=some .free):=fun k hk hk'=>by
    have hk0:=hk
    rw[hsc]at hk
    obtain⟨k',e,r⟩:=vn hk
    have no:¬(k'=.local\/k'=.cell):=fun hh=>by
     rcases ok.own _ (PySem.mem_of_lookup e) hh with e'|e'
     ·obtain⟨p,hp,hpy⟩:=List.mem_map.mp e'
      have e3:=ok.ix p hp
      have:p.1=y:=hpy
      rw[this]at e3
      exact hne (List.mem_map.mpr ⟨p,hp,xp hN e3 e1⟩)
     ·exact e' (List.mem_of_getElem? e1)
    rcases r with rfl|⟨rfl,rfl⟩
    ·rcases hk' with rfl|rfl|rfl
     ·exact absurd (.inl rfl) no
     ·exact absurd (.inr rfl) no
     ·exact⟨e,.inr hk0⟩
    ·exact⟨e,.inl hk0⟩
   have e3:mK cenv.scope y:=e3
   rcases e3 with e3|e3|e3
   ·exact key _ e3 (.inl rfl)
   ·exact key _ e3 (.inr (.inl rfl))
   ·exact key _ e3 (.inr (.inr rfl))
  obtain⟨m,hn,hl⟩:=I.loc
  have hvis:mK X.env.scope y:=(ok.free _ (PySem.mem_of_lookup hfr.1) rfl).elim (fun k=>.inr (.inl k)) (fun k=>.inr (.inr k))
  obtain⟨w,r,q⟩:=hl i y av e1 e2 hvis
  refine⟨w,r,.inr ⟨hfr.2,?_⟩⟩
  obtain⟨c,h1,h2⟩:=look hfr.1
  rcases q with ⟨k,_⟩|⟨_,c',e',z⟩
  ·have k:X.env.scope.names.lookup y=some .local:=k
   rcases ok.free _ (PySem.mem_of_lookup hfr.1) rfl with k'|k'<;>rw[show X.env.scope.names.lookup y=_ from k']at k<;>cases k
  ·rw[h2]at e';cases e'
   exact⟨c,h1,z.keeps kp⟩
 ·have e:cenv.cells.lookup y=some c:=e
  rcases mem e with ⟨h1,_⟩|⟨_,z⟩
  ·obtain⟨w,z⟩:=I.cell y c h1
   exact⟨w,z.keeps kp⟩
  ·exact⟨_,z⟩
 ·show H cenv.locals=none
  rw[hL];exact I.ax.fresh (Nat.le_refl _)
 ·have e:cenv.cells.lookup y=some c:=e
  rcases mem e with ⟨h1,_⟩|⟨h1,_⟩
  ·exact I.dA y c h1
  ·exact I.ax.fresh (Nat.le_of_succ_le h1)
 ·exact absurd (show p∈([]:List (Addr×Obj))++[]from hp) (by simp)
theorem Kj{E:Value->Shared->Prop}{D:Addr}{xs:List V}{y:V}{v:Value}{Q:Value->Shared->Prop}(I:Inv X pins σ H s)(hD:H D=some (.lst xs))(hz:xs.length<sizeLine)(r:RelV y v)
  (h:∀s',Inv X pins σ (upd H D (.lst (xs++[y]))) s'->Q .none s'):wpAny (model X.prog X.w) X.A (call (.builtin "list.append") [.ref D,v]) Q E s:=by
 obtain⟨hz',its,n,ri,e⟩:=I.ax D _ hD
 have hl:=ri.length
 refine append_at (hsz:=by rw[List.size_toArray];omega) e fun h' sb ho'=>?_
 refine h {s with heap:=h'} (I.write (t':=s.toks) (by rw[hD];trivial) (.inl rfl) (fun b u hb q=>(sb.2 b hb).trans q) ⟨_,ho'⟩ ⟨by rw[List.length_append];exact hz,its++[v],n+1,ri.append (.cons r .nil),?_⟩)
 rw[ho']
 simp
def uN(X:Cx)(ifs:List Expr)(t:TT):Prop:=
 ∀(pins:List (Addr×Obj))(s:Shared)(σ:St)(H:Hp)(Q:Bool->Hp->Prop),Inv X pins σ H s->t σ H Q->
  wpAny (model X.prog X.w) X.A (forIn ifs true fun c r=>if r=true then do let ok <-isTrue c X.env (eval c X.env);pure (ForInStep.yield ok)else pure (ForInStep.yield r)) (TP X pins σ Q) X.xe s
def Hj:TT:=fun _ H Q=>Q true H
theorem Ij:uN X [] Hj:=fun _ _ _ H _ I h=>wpAny_tests_nil ⟨H,I,h⟩
end
theorem lX{α:Type}{t:Sem α}{Q Q':α->Shared->Prop}{M:Model}{A:Around}{E:Value->Shared->Prop}{s:Shared}(h:wpAny M A t Q (fun _ _=>False) s)(hQ:∀a s,Q a s->Q' a s):wpAny M A t Q' E s:=wpAny_mono h hQ fun _ _ z=>False.elim z
theorem Gy{prog:Program}{w:World}{A:Around}{R:Result->Shared->Prop}{s:Shared}{elt target iter:Expr}{ifs:List Expr}{scope:Scope}{pos:Pos}{it acc:Value}{env:Env}(I:Nat->Shared->Prop)
  (turn:∀n s,I n s->wpAny (model prog w) A (pyNext it) (fun r s₁=>match r with
   |none=>R (.ok .next) s₁
   |some v=>wpAny (model prog w) A (letOwnedTupleGo target it v) (fun _ s₁'=>wpAny (model prog w) A (assign target env v) (fun _ s₂=>
     wpAny (model prog w) A (forIn ifs true fun c r=>if r=true then do let ok <-isTrue c env (eval c env);pure (ForInStep.yield ok)else pure (ForInStep.yield r)) (fun ok s₃=>
      if ok=true then wpAny (model prog w) A (eval elt env) (fun x s₄=>
       wpAny (model prog w) A (call (.builtin "list.append") [acc,x]) (fun _ s₅=>∃m,m<n/\I m s₅) (notedBy (model prog w) A env fun e s'=>R (.error e) s') s₄) (notedBy (model prog w) A env fun e s'=>R (.error e) s') s₃
      else ∃m,m<n/\I m s₃) (notedBy (model prog w) A env fun e s'=>R (.error e) s') s₂) (notedBy (model prog w) A env fun e s'=>R (.error e) s') s₁') (notedBy (model prog w) A env fun e s'=>R (.error e) s') s₁) (notedBy (model prog w) A env fun e s'=>R (.error e) s') s)
  (n:Nat) (h:I n s):
  codeAny (model prog w) A (.compLoop (.ListComp elt [⟨target,iter,ifs,0⟩] scope pos) 0 it acc env) R s:=by
 refine codeAny_loop rfl I (fun n s hI=>?_) n h
 show wpAny _ A ((compTurn (.ListComp elt [⟨target,iter,ifs,0⟩] scope pos) 0 it acc env).onRaise (fun x=>do noteFrame x env;theTreesLotGoes x)) _ _ s
 refine wpAny_noted ?_
 rw[compTurn_list]
 refine wpAny_bind (wpAny_standAt (wpAny_bind (wpAny_mono (turn n s hI) (fun r s₁ h₁=>?_) fun _ _ h'=>h')))
 cases r with
 |none=>exact wpAny_pure h₁
 |some v=>
  refine wpAny_bind (wpAny_mono h₁ (fun _ s₁' h₁'=>?_) fun _ _ h'=>h')
  refine wpAny_bind (wpAny_mono h₁' (fun _ s₂ h₂=>wpAny_bind (wpAny_mono h₂ (fun ok s₃ h₃=>?_) fun _ _ h'=>h')) fun _ _ h'=>h')
  cases ok with
  |false=>exact wpAny_pure ⟨rfl,h₃⟩
  |true=>
   exact wpAny_bind (wpAny_bind (wpAny_mono h₃ (fun x s₄ h₄=>wpAny_bind (wpAny_mono h₄ (fun _ s₅ h₅=>wpAny_pure (wpAny_pure ⟨rfl,h₅⟩)) fun _ _ h'=>h')) fun _ _ h'=>h'))
section
variable {X:Cx}
def Bz(wi:TI)(g:TG)(tt:TT)(te:TE)(vs:List Nat):TE:=fun σ H Q=>wi σ H fun J H1=>∀D,H1 D=none->∃W:Nat->Nat->Hp->Prop,(∃m,W 0 m (upd H1 D (.lst [])))/\∀i m H,W i m H->
 (J.stop i H/\Q (.ref D) H)\/(J.go i H/\∃Nx:Hp->Prop,(∀H',Nx H'->∃m',m'<m/\W (i+1) m' H')/\∀x H',J.u7 i H x H'->g x (wipe σ vs) H' fun σ2 H2=>wipe σ2 vs=wipe σ vs/\tt σ2 H2 fun b H3=>
  if b=true then te σ2 H3 fun y H4=>∃acc,H4 D=some (.lst acc)/\acc.length<sizeLine/\Nx (upd H4 D (.lst (acc++[y])))else Nx H3)
theorem Jc{pins:List (Addr×Obj)}{s:Shared}{σ:St}{H:Hp}{Q:VK}{elt tg iter:Expr}{ifs:List Expr}{scope:Scope}{own:List (Str×Nat)}{pos pos':Pos}{wi:TI}{g:TG}{tt:TT}{te:TE}{use:Option (Value->Sem Unit)}{Qf:Value->Shared->Prop}
  (hc:X.calm=true) (hN:X.N.Nodup) (I:Inv X pins σ H s) (hi:PI X tg iter wi) (ok:o3 X.N X.env.scope scope own)
  (hg:∀(s:Shared)(H:Hp)(C:Addr)(cl:List (Str×Addr))(fp:List Addr),PG (X.ef s H scope (compEnvC scope cl C X.env) fp) tg g) (ht:∀(s:Shared)(H:Hp)(C:Addr)(cl:List (Str×Addr))(fp:List Addr),uN (X.ef s H scope (compEnvC scope cl C X.env) fp) ifs tt)
  (he:∀(s:Shared)(H:Hp)(C:Addr)(cl:List (Str×Addr))(fp:List Addr),PE (X.ef s H scope (compEnvC scope cl C X.env) fp) elt te) (hs:∀x,foldedSetIterable iter X.env x=pure x)
  (h:Bz wi g tt te (own.map (·.2)) σ H Q)
  (hRR:∀D C s' m H',Inv X pins σ H' s'->Q (.ref D) H'->s'.heap.Ns C m->ig X pins H' C->compPost (model X.prog X.w) X.A X.xe use Qf (.ref D) C (.ok .next) s'):
  wpAny (model X.prog X.w) X.A (comprehension (.ListComp elt [⟨tg,iter,ifs,0⟩] scope pos) scope X.env pos' (newList []) false (eval iter X.env) use) Qf X.xe s:=by
 have hfree:∀y∈scope.names,y.2=.free->∃c,X.env.cells.lookup y.1=some c:=fun y hy e=>by
  rcases ok.free y hy e with k|k
  ·exact I.ok.has _ (.inl k)
  ·exact I.ok.has _ (.inr k)
 refine wpAny_comprehension_free (use:=use) rfl hs (FY hfree) ok.kind (fun y hy e=>by rw[ok.uniq y hy,e])
  (aJ (hi pins s σ H _ I h) fun xv s1 hx=>aJ hx fun itv s2 h2=>?_)
 obtain⟨it,fp,tn,J,H2,e,I2,T,st2,f2,q⟩:=h2
 subst e
 refine wpAny_newObj_type (GA ?_) (by show 0<=sizeLine;decide)
 generalize hD:s2.heap.objs.size=D
 have hDn:H2 D=none:=I2.ax.fresh (Nat.le_of_eq hD)
 obtain⟨W,⟨m0,w0⟩,turn⟩:=q D hDn
 -- the new list
 generalize hs3:({s2 with heap:=s2.heap.push {cls:=.type "list",data:=.seq ([]:List Value).toArray}}:Shared)=s3
 have I3:Inv X pins σ (upd H2 D (.lst [])) s3:=by
  rw[<-hs3]
  refine I2.laid (t':=s2.toks) (fun b o e=>Heap.get?_push_of_some _ e) (Nat.le_of_eq hD) ⟨Nat.zero_le _,[],0,.nil,?_⟩
  rw[<-hD]
  exact Heap.get?_push_size _ rfl
 have h3:s3.heap=s2.heap.push {cls:=.type "list",data:=.seq ([]:List Value).toArray}:=by rw[<-hs3]
 have sz:∀b∈fp,b<s2.heap.objs.size:=fun b hb=>by
  obtain⟨o,e,_⟩:=T.obj _ _ st2 b hb
  exact Heap.lt_size e
 have f3:∀b∈fp,ig X pins (upd H2 D (.lst [])) b/\b<s3.heap.objs.size:=fun b hb=>by
  have hlt:=sz b hb
  refine⟨⟨?_,(f2 b hb).2⟩,by rw[h3,Heap.size_push];exact Nat.lt_succ_of_lt hlt⟩
  rw[ao (by rw[<-hD];exact Nat.ne_of_lt hlt)]
  exact(f2 b hb).1
 have st3:tn 0 s3.heap:=T.keep _ _ _ st2 fun b _ o e=>by rw[h3];exact Heap.get?_push_of_some _ e
 have I4:=E5 I3 ok hN f3
 have pg:=hg s3 (upd H2 D (.lst [])) s3.heap.objs.size (cellsFrom (s3.heap.objs.size+1) scope.names (c9 X.env.cells scope.names [])) fp
 have pt:=ht s3 (upd H2 D (.lst [])) s3.heap.objs.size (cellsFrom (s3.heap.objs.size+1) scope.names (c9 X.env.cells scope.names [])) fp
 have pe:=he s3 (upd H2 D (.lst [])) s3.heap.objs.size (cellsFrom (s3.heap.objs.size+1) scope.names (c9 X.env.cells scope.names [])) fp
 show codeAny _ _ (.compStart (.ListComp elt [⟨tg,iter,ifs,0⟩] scope pos) 0 (.ref it) (.ref D) (compEnvC scope (cellsFrom (s3.heap.objs.size+1) scope.names (c9 X.env.cells scope.names [])) s3.heap.objs.size X.env)) (compPost (model X.prog X.w) X.A X.xe use Qf (.ref D) s3.heap.objs.size) {s3 with heap:=pushCells (s3.heap.push {cls:=.type "dict",data:=.dict #[]}) scope.names}
 have nfp:∀b∈fp,(upd H2 D (.lst [])) b=none:=fun b hb=>(f3 b hb).1.1
 generalize hce:compEnvC scope (cellsFrom (s3.heap.objs.size+1) scope.names (c9 X.env.cells scope.names [])) s3.heap.objs.size X.env=ce at I4 pg pt pe ⊢
 have cL:ce.locals=s3.heap.objs.size:=by subst hce;rfl
 generalize hH3:upd H2 D (.lst [])=H3 at I3 I4 pg pt pe w0 nfp f3
 generalize hs4:({s3 with heap:=pushCells (s3.heap.push {cls:=.type "dict",data:=.dict #[]}) scope.names}:Shared)=s4 at I4 ⊢
 have st4:tn 0 s4.heap:=T.keep _ _ _ st3 fun b _ o e=>by rw[<-hs4];exact pushCells_keeps _ _ _ _ (Heap.get?_push_of_some _ e)
 have stat:∀{σ':St}{H':Hp}{s':Shared},Inv (X.ef s3 H3 scope ce fp) [] σ' H' s'->(∀b∈fp,H' b=none)->∀b∈fp,ig (X.ef s3 H3 scope ce fp) [] H' b:=fun{σ' H' s'}I' hn b hb=>
  ⟨hn b hb,(I'.ok.js b hb).1,I'.ok.iO b hb,.inl hb,fun x c e=>(I'.ok.js b hb).2 x c e,fun p hp=>absurd (show p∈([]:List (Addr×Obj))++[]from hp) (by simp)⟩
 have loop:codeAny (model X.prog X.w) X.A (.compLoop (.ListComp elt [⟨tg,iter,ifs,0⟩] scope pos) 0 (.ref it) (.ref D) ce) (compPost (model X.prog X.w) X.A X.xe use Qf (.ref D) s3.heap.objs.size) s4:=by
  refine Gy (fun n s'=>∃i H',Inv (X.ef s3 H3 scope ce fp) [] (wipe σ (own.map (·.2))) H' s'/\tn i s'.heap/\(∀b∈fp,H' b=none)/\W i n H') ?_ m0 ⟨0,H3,I4,st4,nfp,w0⟩
  rintro n s5 ⟨i,H5,I5,st5,n5,w5⟩
  rcases turn i n H5 w5 with ⟨stop,qq⟩|⟨go,Nx,hNx,step⟩
  ·have td:=T.done (X.ef s3 H3 scope ce fp) rfl rfl rfl hc i [] s5 _ H5 (fun _ _=>False) I5 (stat I5 n5) st5 stop
   refine lX td fun r s6⟨hr,I6⟩=>?_
   subst hr
   -- back in the def's context
   have I7:Inv X pins σ H5 s6:=I3.K9 (ch:=fp) I6.os I6.base I6.ax I6.bare fun b hb=>⟨(f3 b hb).1.2.2.2.1,(f3 b hb).1.2.1,(f3 b hb).1.2.2.2.2.1,(f3 b hb).1.2.2.2.2.2⟩
   have nC:H5 s3.heap.objs.size=none:=by
    have z:H5 ce.locals=none:=I6.free
    rw[cL]at z
    exact z
   obtain⟨m,hn,_⟩:=I6.loc
   have hn:s6.heap.Ns ce.locals m:=hn
   rw[cL]at hn
   exact hRR D s3.heap.objs.size s6 m H5 I7 qq hn (I3.Ba (Nat.le_refl _) nC)
  ·have ti:=T.item (X.ef s3 H3 scope ce fp) rfl rfl rfl hc i [] s5 _ H5 (fun _ _=>False) I5 (stat I5 n5) st5 go
   refine lX ti fun r s6⟨u,hr,h6⟩=>?_
   subst hr
   refine lX h6 fun _ s7⟨x,H7,I7,r7,y7,st7,n7⟩=>?_
   have I7':=I7.pinned (stat I7 n7) (T.obj _ _ st7)
   refine lX (pg _ s7 _ H7 x u _ I7' r7 (step x H7 y7)) fun _ s8⟨σ8,H8,I8,hw8,q8⟩=>?_
   refine lX (pt _ s8 σ8 H8 _ I8 q8) fun b s9⟨H9,I9,q9⟩=>?_
   -- the turn's end
   have fin:∀{s':Shared}{H':Hp},Inv (X.ef s3 H3 scope ce fp) ([]++t7 fp s7.heap) σ8 H' s'->Nx H'->∃m,m<n/\∃i H',Inv (X.ef s3 H3 scope ce fp) [] (wipe σ (own.map (·.2))) H' s'/\tn i s'.heap/\(∀b∈fp,H' b=none)/\W i m H':=fun{s' H'}I' nx=>by
    obtain⟨m',hm,w'⟩:=hNx H' nx
    have pin':∀b∈fp,∀o,s7.heap.get? b=some o->s'.heap.get? b=some o/\H' b=none:=fun b hb o e=>
     let z:=I'.pin (b,o) (List.mem_append_right _ (List.mem_append_right _ (IM hb e)))
     ⟨z.1,z.2.1⟩
    have hl:(wipe σ (own.map (·.2))).length=σ8.length:=by rw[<-hw8,wQ]
    refine⟨m',hm,i+1,H',(I'.Ik (pins:=[])).weak hl (fun j v e=>?_),T.keep _ _ _ st7 fun b hb o e=>(pin' b hb o e).1,fun b hb=>?_,w'⟩
    ·rw[<-hw8]at e
     exact(wZ e).1
    ·obtain⟨o,e,_⟩:=T.obj _ _ st7 b hb
     exact(pin' b hb o e).2
   cases b with
   |false=>
    simp only[Bool.false_eq_true,if_false]at q9 ⊢
    exact fin I9 q9
   |true=>
    simp only[if_true]at q9 ⊢
    refine lX (pe _ s9 σ8 H9 _ I9 q9) fun z s10⟨yv,H10,I10,r10,acc,hD10,hz10,nx⟩=>?_
    exact Kj (X:=X.ef s3 H3 scope ce fp) I10 hD10 hz10 r10 fun s11 I11=>fin I11 nx
 exact codeAny_compStart_list loop (T.self X.A 0 _ _ _ st4 loop)
theorem LM{elt tg iter:Expr}{ifs:List Expr}{scope:Scope}{own:List (Str×Nat)}{pos:Pos}{wi:TI}{g:TG}{tt:TT}{te:TE}(hc:X.calm=true)(hN:X.N.Nodup)(hi:PI X tg iter wi)(ok:o3 X.N X.env.scope scope own)
  (hg:∀(s:Shared)(H:Hp)(C:Addr)(cl:List (Str×Addr))(fp:List Addr),PG (X.ef s H scope (compEnvC scope cl C X.env) fp) tg g) (ht:∀(s:Shared)(H:Hp)(C:Addr)(cl:List (Str×Addr))(fp:List Addr),uN (X.ef s H scope (compEnvC scope cl C X.env) fp) ifs tt)
  (he:∀(s:Shared)(H:Hp)(C:Addr)(cl:List (Str×Addr))(fp:List Addr),PE (X.ef s H scope (compEnvC scope cl C X.env) fp) elt te) (hs:∀x,foldedSetIterable iter X.env x=pure x:=by intro _;rfl):
  PE X (.ListComp elt [⟨tg,iter,ifs,0⟩] scope pos) (Bz wi g tt te (own.map (·.2))):=by
 intro pins s σ H Q I h
 rw[eval_ListComp]
 refine Jc hc hN I hi ok hg ht he hs h fun D C s' m H' I' q hn f=>⟨m,hn,fun h'' sb=>?_⟩
 obtain⟨f0,f1,f2,f3,f4,f5⟩:=f
 exact⟨.ref D,H',I'.turned (t':=s'.toks) (fun b o hb e=>(sb.2 b hb).trans e) f0 f1 f3 f4 f5,rfl,q⟩
end
theorem Hi{K:PySem.W.Frag}{a:Addr}{xs:List V}{g:TG}{tt:TT}{te:TE}{vs:List Nat}{σ:St}{H1:Hp}{D:Addr}{Qd:Hp->Prop}(Pv:Nat->Hp->Prop)(h0:Pv 0 (upd H1 D (.lst [])))(hl:∀i H,i<=xs.length->Pv i H->aO K H a xs)
  (hs:∀i x H,xs[i]? =some x->Pv i H->g x (wipe σ vs) H fun σ2 H2=>wipe σ2 vs=wipe σ vs/\tt σ2 H2 fun b H3=>
   if b=true then te σ2 H3 fun y H4=>∃acc,H4 D=some (.lst acc)/\acc.length<sizeLine/\Pv (i+1) (upd H4 D (.lst (acc++[y])))else Pv (i+1) H3) (hd:∀H,Pv xs.length H->Qd H):
  ∃W:Nat->Nat->Hp->Prop,(∃m,W 0 m (upd H1 D (.lst [])))/\∀i m H,W i m H->
   ((oq K a).stop i H/\Qd H)\/((oq K a).go i H/\∃Nx:Hp->Prop,(∀H',Nx H'->∃m',m'<m/\W (i+1) m' H')/\∀x H',(oq K a).u7 i H x H'->g x (wipe σ vs) H' fun σ2 H2=>wipe σ2 vs=wipe σ vs/\tt σ2 H2 fun b H3=>
    if b=true then te σ2 H3 fun y H4=>∃acc,H4 D=some (.lst acc)/\acc.length<sizeLine/\Nx (upd H4 D (.lst (acc++[y])))else Nx H3):=by
 refine⟨fun i m H=>m=xs.length-i/\i<=xs.length/\Pv i H,⟨xs.length,by simp,Nat.zero_le _,h0⟩,?_⟩
 rintro i m H ⟨rfl,hi,p⟩
 have q:=hl i H hi p
 by_cases hlt:i<xs.length
 ·refine .inr ⟨⟨xs,xs[i],q,by simp[hlt]⟩,Pv (i+1),fun H' p'=>⟨xs.length-(i+1),by omega,rfl,hlt,p'⟩,fun x H' y=>?_⟩
  obtain⟨e,y⟩:=y
  subst e
  exact hs i x _ (y xs q) p
 ·have e:i=xs.length:=by omega
  subst e
  exact .inl ⟨⟨xs,q,Nat.le_refl _⟩,hd H p⟩
def Aq(N:List Str)(sc scope:Scope)(own:List (Str×Nat)):Bool:=
 (match scope.kind with| .function=>true|_=>false)&&(scope.names.all fun y=>decide (scope.names.lookup y.1=some y.2))&&(own.all fun p=>decide (N[p.2]? =some p.1))&&
  (scope.names.all fun y=>match y.2 with
   | .free=>(match sc.names.lookup y.1 with|some .cell=>true|some .free=>true|_=>false)
   | .local=>decide (y.1∈own.map (·.1))||decide (y.1∉N)
   | .cell=>decide (y.1∈own.map (·.1))||decide (y.1∉N)
   |_=>true)
theorem JA{N:List Str}{sc scope:Scope}{own:List (Str×Nat)}(h:Aq N sc scope own=true):o3 N sc scope own:=by
 unfold Aq at h
 simp only[Bool.and_eq_true,List.all_eq_true,decide_eq_true_eq]at h
 obtain⟨⟨⟨h1,h2⟩,h3⟩,h4⟩:=h
 refine⟨?_,h2,h3,fun y hy e=>?_,fun y hy e=>?_⟩
 ·split at h1
  ·assumption
  ·cases h1
 ·have q:=h4 y hy
  simp only[e]at q
  split at q<;>first|exact .inl (by assumption)|exact .inr (by assumption)|cases q
 ·have q:=h4 y hy
  rcases e with e|e<;>(simp only[e,Bool.or_eq_true,decide_eq_true_eq]at q;exact q)
end L2
namespace L2
open PySem PySem.Spec PyProof.Rows
section
variable {prog:Program}{w:World}{A:Around}{R:Result->Shared->Prop}{s:Shared}{elt t0 i0 t1 i1:Expr}{ifs0 ifs1:List Expr}{scope:Scope}{pos:Pos}{it acc:Value}{env:Env}
end
section
variable {X:Cx}
end
end L2
namespace L2
open PySem PySem.Spec PyProof.Rows
section
variable {κ:Type}[DecidableEq κ]
def bJ(kvs:List (κ×V))(k:κ):Option V:=(kvs.find? fun kv=>decide (kv.1=k)).map (·.2)
def putK(kvs:List (κ×V))(k:κ)(v:V):List (κ×V):=
 if(kvs.any fun kv=>decide (kv.1=k))=true then kvs.map (fun kv=>if kv.1=k then(kv.1,v)else kv)else kvs++[(k,v)]
def y8(kvs:List (κ×V))(k:κ):List (κ×V):=kvs.filter fun kv=>decide (kv.1≠k)
theorem Dv{k:κ}:bJ ([]:List (κ×V)) k=none:=rfl
theorem gu{p:κ×V}{r:List (κ×V)}{k:κ}(e:p.1=k):bJ (p::r) k=some p.2:=by simp[bJ,List.find?_cons,e]
theorem gm{p:κ×V}{r:List (κ×V)}{k:κ}(e:¬p.1=k):bJ (p::r) k=bJ r k:=by simp[bJ,List.find?_cons,e]
theorem su(k:κ):∀kvs:List (κ×V),(kvs.any fun kv=>decide (kv.1=k))=(bJ kvs k).isSome
 |[]=>rfl
 |p::r=>by
  rw[List.any_cons]
  by_cases e:p.1=k
  ·simp only[gu e,decide_eq_true e,Bool.true_or,Option.isSome_some]
  ·rw[gm e,decide_eq_false e,Bool.false_or];exact su k r
theorem BA(k j:κ)(y:V):∀kvs:List (κ×V),bJ (kvs.map fun kv=>if kv.1=k then(kv.1,y)else kv) j=(bJ kvs j).map fun x=>if j=k then y else x
 |[]=>rfl
 |p::r=>by
  have ih:=BA k j y r
  rw[List.map_cons]
  by_cases h:p.1=k
  ·rw[if_pos h]
   by_cases e:p.1=j
   ·rw[gu (p:=(p.1,y)) e,gu e,Option.map_some,if_pos (e.symm.trans h)]
   ·rw[gm (p:=(p.1,y)) e,gm e,ih]
  ·rw[if_neg h]
   by_cases e:p.1=j
   ·rw[gu (p:=p) e,gu e,Option.map_some,if_neg (fun z=>h (e.trans z))]
   ·rw[gm (p:=p) e,gm e,ih]
theorem DO(k j:κ)(y:V):∀kvs:List (κ×V),bJ kvs k=none->bJ (kvs++[(k,y)]) j=if j=k then some y else bJ kvs j
 |[],_=>by
  by_cases e:k=j
  ·rw[if_pos e.symm];exact gu (p:=(k,y)) e
  ·rw[if_neg (fun z=>e z.symm)];exact gm (p:=(k,y)) e
 |p::r,hn=>by
  rw[List.cons_append]
  have hk:¬p.1=k:=fun z=>by rw[gu z]at hn;cases hn
  rw[gm hk]at hn
  have ih:=DO k j y r hn
  by_cases e:p.1=j
  ·rw[gu e,gu e,if_neg (fun z=>hk (e.trans z))]
  ·rw[gm e,gm e,ih]
theorem vb(kvs:List (κ×V))(k j:κ)(y:V):bJ (putK kvs k y) j=if j=k then some y else bJ kvs j:=by
 unfold putK
 by_cases a:(kvs.any fun kv=>decide (kv.1=k))=true
 ·rw[if_pos a,BA]
  rw[su]at a
  by_cases e:j=k
  ·obtain⟨x,hx⟩:=Option.isSome_iff_exists.mp a
   rw[if_pos e,e,hx,Option.map_some,if_pos rfl]
  ·rw[if_neg e]
   cases bJ kvs j with
   |none=>rfl
   |some x=>rw[Option.map_some,if_neg e]
 ·rw[if_neg a]
  refine DO k j y kvs ?_
  rw[su]at a
  cases q:bJ kvs k with
  |none=>rfl
  |some x=>rw[q]at a;exact(a rfl).elim
theorem mT(kvs:List (κ×V))(k:κ)(v:V):(putK kvs k v).length<=kvs.length+1:=by
 unfold putK
 split
 ·rw[List.length_map];omega
 ·rw[List.length_append,List.length_cons,List.length_nil];omega
theorem cW.sA{o:Option V}{u:Option Value}(r:cW o u):o.isSome=u.isSome:=by
 cases o with
 |none=>cases u with
  |none=>rfl
  |some _=>exact(show False from r).elim
 |some _=>cases u with
  |none=>exact(show False from r).elim
  |some _=>rfl
theorem cW.getD{o:Option V}{u:Option Value}{d:V}{d':Value}(r:cW o u)(rd:RelV d d'):RelV (o.getD d) (u.getD d'):=by
 cases o with
 |none=>cases u with
  |none=>exact rd
  |some _=>exact(show False from r).elim
 |some _=>cases u with
  |none=>exact(show False from r).elim
  |some _=>exact r
theorem KV.val{kvs:List (κ×V)}{vs:List (κ×Value)}(r:KV kvs vs)(k:κ):cW (bJ kvs k) (valueAt vs k):=by
 unfold KV at r
 induction r with
 |nil=>exact True.intro
 | @cons p q ps qs h t ih=>
  obtain⟨h1,h2⟩:=h
  by_cases e:p.1=k
  ·have e':q.1=k:=h1.symm.trans e
   have b:valueAt (q::qs) k=some q.2:=by simp[valueAt,List.find?_cons,e']
   rw[gu e,b];exact h2
  ·have e':¬q.1=k:=fun z=>e (h1.trans z)
   have b:valueAt (q::qs) k=valueAt qs k:=by simp[valueAt,List.find?_cons,e']
   rw[gm e,b];exact ih
theorem KV.any{kvs:List (κ×V)}{vs:List (κ×Value)}(r:KV kvs vs)(k:κ):(kvs.any fun kv=>decide (kv.1=k))=vs.any fun kv=>decide (kv.1=k):=by
 unfold KV at r
 induction r with
 |nil=>rfl
 |cons h t ih=>rw[List.any_cons,List.any_cons,ih,h.1]
theorem KV.uz{kvs:List (κ×V)}{vs:List (κ×Value)}(r:KV kvs vs)(k:κ){y:V}{u:Value}(ry:RelV y u):
  KV (kvs.map fun kv=>if kv.1=k then(kv.1,y)else kv) (vs.map fun kv=>if kv.1=k then(kv.1,u)else kv):=by
 unfold KV at r ⊢
 induction r with
 |nil=>exact .nil
 | @cons p q ps qs h t ih=>
  rw[List.map_cons,List.map_cons]
  refine .cons ?_ ih
  obtain⟨h1,h2⟩:=h
  by_cases e:p.1=k
  ·rw[if_pos e,if_pos (h1.symm.trans e)];exact⟨h1,ry⟩
  ·rw[if_neg e,if_neg (fun z=>e (h1.trans z))];exact⟨h1,h2⟩
theorem KV.put{kvs:List (κ×V)}{vs:List (κ×Value)}(r:KV kvs vs)(k:κ){y:V}{u:Value}(ry:RelV y u):KV (putK kvs k y) (stored vs k u):=by
 unfold putK stored
 rw[r.any k]
 by_cases e:(vs.any fun kv=>decide (kv.1=k))=true
 ·rw[if_pos e,if_pos e];exact r.uz k ry
 ·rw[if_neg e,if_neg e];exact Paired.snoc r ⟨rfl,ry⟩
theorem KV.drop{kvs:List (κ×V)}{vs:List (κ×Value)}(r:KV kvs vs)(k:κ):KV (y8 kvs k) (without vs k):=by
 unfold KV at r ⊢
 unfold y8 without
 induction r with
 |nil=>exact .nil
 | @cons p q ps qs h t ih=>
  obtain⟨h1,h2⟩:=h
  rw[List.filter_cons,List.filter_cons]
  by_cases e:p.1=k
  ·have a:¬decide (p.1≠k)=true:=by simp[e]
   have b:¬decide (q.1≠k)=true:=by simp[h1.symm.trans e]
   rw[if_neg a,if_neg b];exact ih
  ·have e':¬q.1=k:=fun z=>e (h1.trans z)
   have a:decide (p.1≠k)=true:=by simp[e]
   have b:decide (q.1≠k)=true:=by simp[e']
   rw[if_pos a,if_pos b];exact .cons ⟨h1,h2⟩ ih
theorem KV.keys{kvs:List (κ×V)}{vs:List (κ×Value)}(r:KV kvs vs):kvs.map (·.1)=vs.map (·.1):=by
 unfold KV at r
 induction r with
 |nil=>rfl
 |cons h t ih=>rw[List.map_cons,List.map_cons,ih,h.1]
theorem KV.length{kvs:List (κ×V)}{vs:List (κ×Value)}(r:KV kvs vs):kvs.length=vs.length:=Paired.length r
end
theorem nE{P:Program}{w:World}{k:Key}{u:Value}(r:RelV (kV k) u):(dY P w).is k u=true:=by
 cases k with
 |inl i=>obtain⟨t,e⟩:=(show ∃t,u=Value.int i t from r);subst e;exact LO P w i t
 |inr x=>obtain⟨t,e⟩:=(show ∃t,u=Value.str x t from r);subst e;exact Jp P w x t
theorem BU{P:Program}{w:World}:∀{ks:List Key}{us:List Value},aF (ks.map kV) us->ItemsAre (dY P w) ks us
 |[],_,r=>by rw[List.map_nil]at r;cases r;exact .nil
 |k::ks,_,r=>by
  rw[List.map_cons]at r
  cases r with
  |cons h t=>exact .cons (nE h) (BU t)
abbrev KT(H:Hp):List (List Key×V)->List (List Key×Addr×Value)->Prop:=Paired fun p q=>p.1=q.1/\H q.2.1=some (.tup (p.1.map kV))/\RelV p.2 q.2.2
theorem KT.val{H:Hp}{kvs:List (List Key×V)}{xs:List (List Key×Addr×Value)}(r:KT H kvs xs)(k:List Key):cW (bJ kvs k) ((atKey xs k).map (·.2)):=by
 induction r with
 |nil=>exact True.intro
 | @cons p q ps qs h t ih=>
  obtain⟨h1,_,h2⟩:=h
  by_cases e:p.1=k
  ·have e':q.1=k:=h1.symm.trans e
   have b:atKey (q::qs) k=some q.2:=by simp[atKey,List.find?_cons,e']
   rw[gu e,b];exact h2
  ·have e':¬q.1=k:=fun z=>e (h1.trans z)
   have b:atKey (q::qs) k=atKey qs k:=by simp[atKey,List.find?_cons,e']
   rw[gm e,b];exact ih
theorem KT.uz{H:Hp}{kvs:List (List Key×V)}{xs:List (List Key×Addr×Value)}(r:KT H kvs xs)(k:List Key){y:V}{u:Value}(ry:RelV y u):
  KT H (kvs.map fun kv=>if kv.1=k then(kv.1,y)else kv) (xs.map (putAt k u)):=by
 induction r with
 |nil=>exact .nil
 | @cons p q ps qs h t ih=>
  rw[List.map_cons,List.map_cons]
  refine .cons ?_ ih
  obtain⟨h1,h2,h3⟩:=h
  unfold putAt
  by_cases e:p.1=k
  ·rw[if_pos e,if_pos (h1.symm.trans e)];exact⟨h1,h2,ry⟩
  ·rw[if_neg e,if_neg (fun z=>e (h1.trans z))];exact⟨h1,h2,h3⟩
theorem KT.put{H:Hp}{kvs:List (List Key×V)}{xs:List (List Key×Addr×Value)}(r:KT H kvs xs)(k:List Key){b:Addr}{y:V}{u:Value}(hb:H b=some (.tup (k.map kV)))(ry:RelV y u):
  KT H (putK kvs k y) (storedH xs k b u):=by
 have e:(kvs.any fun kv=>decide (kv.1=k))=(atKey xs k).isSome:=by
  rw[su,(r.val k).sA,Option.isSome_map]
 unfold putK storedH
 rw[e]
 by_cases q:(atKey xs k).isSome=true
 ·rw[if_pos q,if_pos q];exact r.uz k ry
 ·rw[if_neg q,if_neg q];exact Paired.snoc r ⟨rfl,hb,ry⟩
theorem KT.keeps{H H':Hp}{kvs:List (List Key×V)}{xs:List (List Key×Addr×Value)}(r:KT H kvs xs)(ht:∀b ys,H b=some (.tup ys)->H' b=some (.tup ys)):KT H' kvs xs:=
 Paired.xA r fun _ _ z=>⟨z.1,ht _ _ z.2.1,z.2.2⟩
section
variable {P:Program}{w:World}{H:Hp}{h:Heap}{a:Addr}
theorem A9{u:HO}(ok:bz P w H h)(e:Rd H a u):cf P w H h a u:=e.ok ok
theorem rC{kvs:List (Key×V)}(ok:bz P w H h)(e:Rd H a (.dK kvs)):kvs.length<=sizeLine/\(a==sysModules)=false/\∃vs,KV kvs vs/\h.DictOf (dY P w) a vs:=
 show cf P w H h a (.dK kvs)from A9 ok e
theorem EL{kvs:List (Key×V)}(ok:bz P w H h)(e:H a=some (.dK kvs)):kvs.length<=sizeLine/\(a==sysModules)=false/\∃vs,KV kvs vs/\h.DictOf (dY P w) a vs:=rC ok (.inl e)
theorem r0{ks:List Key}(ok:bz P w H h)(e:H a=some (.tup (ks.map kV))):(tupleKind (dY P w)).is h ks a:=by
 obtain⟨_,its,r,o,h1,h2,n,h3⟩:=(show cf P w H h a (.tup (ks.map kV))from ok a _ e)
 exact⟨o,its.toArray,n,h1,h2,h3,by simpa using BU r⟩
theorem r8{kvs:List (List Key×V)}(ok:bz P w H h)(e:Rd H a (.dT kvs)):kvs.length<=sizeLine/\(a==sysModules)=false/\
  ∃xs,KT H kvs xs/\h.DictOfH (tupleKind (dY P w)) a xs:=by
 obtain⟨z,y,xs,r,o,es,ep,h1,h2,h3,h4,h5⟩:=(show cf P w H h a (.dT kvs)from A9 ok e)
 refine⟨z,y,xs,r,o,es,ep,h1,h2,h3,h4,fun x hx=>?_,h5⟩
 have all:∀{l:List (List Key×V)}{m:List (List Key×Addr×Value)},KT H l m->∀x∈m,(tupleKind (dY P w)).is h x.1 x.2.1:=by
  intro l m q
  induction q with
  |nil=>intro x hx;exact nomatch hx
  | @cons p q ps qs hq t ih=>
   intro x hx
   rcases List.mem_cons.mp hx with e|hx
   ·subst e
    exact r0 ok (by rw[<-hq.1];exact hq.2.1)
   ·exact ih x hx
 exact all r x hx
theorem JD{kvs:List (List Key×V)}(ok:bz P w H h)(e:H a=some (.dT kvs)):kvs.length<=sizeLine/\(a==sysModules)=false/\
  ∃xs,KT H kvs xs/\h.DictOfH (tupleKind (dY P w)) a xs:=r8 ok (.inl e)
end
def fS(H:Hp)(a:Addr)(y:V)(r:Option V):Prop:=
 (∃kvs k,Rd H a (.dK kvs)/\y=kV k/\r=bJ kvs k)\/∃kvs k b,Rd H a (.dT kvs)/\y=.ref b/\H b=some (.tup (k.map kV))/\r=bJ kvs k
def gZ(H:Hp)(a:Addr)(y v:V)(H':Hp):Prop:=
 (∃kvs k,H a=some (.dK kvs)/\y=kV k/\kvs.length<sizeLine/\H'=upd H a (.dK (putK kvs k v)))\/
 ∃kvs k b,H a=some (.dT kvs)/\y=.ref b/\H b=some (.tup (k.map kV))/\kvs.length<sizeLine/\H'=upd H a (.dT (putK kvs k v))
theorem fS.k{H:Hp}{a:Addr}{kvs:List (Key×V)}{k:Key}(e:H a=some (.dK kvs)):fS H a (kV k) (bJ kvs k):=.inl ⟨kvs,k,.inl e,rfl,rfl⟩
theorem fS.t{H:Hp}{a b:Addr}{kvs:List (List Key×V)}{k:List Key}(e:H a=some (.dT kvs))(eb:H b=some (.tup (k.map kV))):fS H a (.ref b) (bJ kvs k):=.inr ⟨kvs,k,b,.inl e,rfl,eb,rfl⟩
theorem gZ.k{H:Hp}{a:Addr}{kvs:List (Key×V)}{k:Key}{v:V}(e:H a=some (.dK kvs))(hl:kvs.length<sizeLine):gZ H a (kV k) v (upd H a (.dK (putK kvs k v))):=.inl ⟨kvs,k,e,rfl,hl,rfl⟩
theorem gZ.t{H:Hp}{a b:Addr}{kvs:List (List Key×V)}{k:List Key}{v:V}(e:H a=some (.dT kvs))(eb:H b=some (.tup (k.map kV)))(hl:kvs.length<sizeLine):
  gZ H a (.ref b) v (upd H a (.dT (putK kvs k v))):=.inr ⟨kvs,k,b,e,rfl,eb,hl,rfl⟩
section
variable {X:Cx}{pins:List (Addr×Obj)}{σ:St}{H:Hp}{s:Shared}{a:Addr}{y v:V}{u r:Value}{o:Option V}{A:Around}{E:Value->Shared->Prop}
theorem Inv.big(I:Inv X pins σ H s):sysModules<s.heap.objs.size:=by
 have h:mainGlobals<s.heap.objs.size:=(I.mod.glob.keeps I.bk).lt
 exact Nat.lt_trans (by decide) h
theorem Ii{Q:Value->Shared->Prop}(hu:A.units+1<cLine)(I:Inv X pins σ H s)(g:fS H a y o)(ry:RelV y u)(h:∀s',Inv X pins σ H s'->Q (.bool o.isSome) s'):
  wpAny (model X.prog X.w) A (compareOp .In u (.ref a)) Q E s:=by
 rcases g with ⟨kvs,k,e,ey,l⟩|⟨kvs,k,b,e,ey,eb,l⟩
 ·subst ey
  obtain⟨z,hd,vs,rel,dd⟩:=rC I.ax e
  refine wpAny_in_of (nE ry) hd dd.mapOf ?_
  rw[<-(rel.val k).sA,<-l]
  exact h _ (I.tok _)
 ·subst ey
  cases (show u=Value.ref b from ry)
  obtain⟨z,hd,xs,rel,dd⟩:=r8 I.ax e
  refine wpAny_in_heap (tupleKind_room_in1 hu) (r0 I.ax eb) hd dd ?_
  have q:=(rel.val k).sA
  rw[Option.isSome_map]at q
  rw[<-q,<-l]
  exact h _ (I.tok _)
theorem Au{h':Heap}{t':Nat}{ob:HO}(I:Inv X pins σ H s)(mu:oP (H a))(hs:Heap.SameBut a s.heap h')(he:∃q,h'.get? a=some q)(new:cf X.prog X.w (upd H a ob) h' a ob):
  Inv X pins σ (upd H a ob) {s with heap:=h',toks:=t'}:=
 I.write (x:=a) (e:=a) mu (.inl rfl) (fun b q hb z=>(hs.2 b hb).trans z) he new
theorem KN{P:Program}{w:World}{H':Hp}{h':Heap}{kvs:List (Key×V)}{vs:List (Key×Value)}(z:kvs.length<=sizeLine)(hd:(a==sysModules)=false)(rel:KV kvs vs)(dd:h'.DictOf (dY P w) a vs):
  cf P w H' h' a (.dK kvs):=⟨z,hd,vs,rel,dd⟩
theorem Fb{H':Hp}{Q:Unit->Shared->Prop}(hu:A.units+1<cLine)(I:Inv X pins σ H s)(g:gZ H a y v H')(ry:RelV y u)(rv:RelV v r)(h:∀s',Inv X pins σ H' s'->Q () s'):
  wpAny (model X.prog X.w) A (setItem (.ref a) u r) Q E s:=by
 rcases g with ⟨kvs,k,e,ey,l,eH⟩|⟨kvs,k,b,e,ey,eb,l,eH⟩
 ·subst ey eH
  obtain⟨z,hd,vs,rel,dd⟩:=EL I.ax e
  have hz:vs.length<=sizeLine:=by rw[<-rel.length];exact z
  have hl:(putK kvs k v).length<=sizeLine:=by have:=mT kvs k v;omega
  refine wpAny_setItem_pairs (hsz:=hz) (nE ry) dd fun h' dd' hs=>h _ ?_
  have he:∃q,h'.get? a=some q:=let⟨q,_,_,hq,_⟩:=dd';⟨q,hq⟩
  exact Au I (by rw[e];exact True.intro) hs he (KN hl hd (rel.put k rv) dd')
 ·subst ey eH
  cases (show u=Value.ref b from ry)
  obtain⟨z,hd,xs,rel,dd⟩:=JD I.ax e
  have hz:xs.length<=sizeLine:=by rw[<-Paired.length rel];exact z
  have hl:(putK kvs k v).length<=sizeLine:=by have:=mT kvs k v;omega
  refine wpAny_setItem_heap (hsz:=hz) (tupleKind_room_in1 hu) (r0 I.ax eb) dd fun h' dd' hs=>h _ ?_
  obtain⟨q,es,ep,hq,h2,h3,h4,_,h5⟩:=dd'
  refine Au I (by rw[e];exact True.intro) hs ⟨q,hq⟩ ⟨hl,hd,_,(rel.put k eb rv).keeps fun c ys ec=>?_,q,es,ep,hq,h2,h3,h4,h5⟩
  rw[ao (bI ec e (fun z=>nomatch z))]
  exact ec
end
section
variable {X:Cx}{pins:List (Addr×Obj)}{σ:St}{H:Hp}{s:Shared}{a:Addr}{kvs:List (Key×V)}{k:Key}{u:Value}{A:Around}{E:Value->Shared->Prop}
end
def zz(i:Expr):Prop:=∀ov iv,subscripted i false ov iv=operate [ov,iv] (getItem ov iv)
theorem JP{prog:Program}{w:World}{A:Around}{E:Value->Shared->Prop}{s:Shared}{env:Env}{value slice:Expr}{pos:Pos}{T id:String}{Q:Value->Shared->Prop}
  (hl:typeLookup (.type T) "__getitem__"=pure (some (.builtin id))) (hs:zz slice)
  (h:wpAny (model prog w) A (eval value env) (fun o s₁=>wpAny (model prog w) A (eval slice env) (fun i s₂=>s₂.TypeIs o T/\wpAny (model prog w) A (getItem o i) Q E s₂) E s₁) E s):
  wpAny (model prog w) A (eval (.Subscript value slice pos) env) Q E s:=by
 refine Subscript_ (wpAny_mono h (fun o s₁ h₁=>wpAny_mono h₁ (fun i s₂ h₂=>?_) fun _ _ x=>x) fun _ _ x=>x)
 obtain⟨hT,h₂⟩:=h₂
 unfold subscriptTail
 refine wpAny_bind ?_
 rw[getitemInPython_of_ne hT.not_modules]
 refine wpAny_bind (wpAny_specialOf hT hl ?_)
 have fin:wpAny (model prog w) A (subscripted slice false o i) (fun r s₃=>wpAny (model prog w) A (letTemporaryGo value o r>>=fun _=>pure r) Q E s₃) E s₂:=by
  rw[hs o i]
  exact wpAny_operating (wpAny_mono h₂ (fun r s₃ h₃=>wpAny_bind (wpAny_letTemporaryGo (wpAny_pure h₃))) fun _ _ x=>x)
 first
  |exact wpAny_pure (wpAny_bind fin)
  |exact wpAny_bind (wpAny_pure (wpAny_bind fin))
  |exact wpAny_bind fin
def Kh(ty td:TE):TE:=fun σ H Q=>ty σ H fun y H1=>td σ H1 fun x H2=>∃a o,x=.ref a/\fS H2 a y o/\Q (.bl o.isSome) H2
def Fz(td ty tv:TE):TS:=fun D σ H=>tv σ H fun v H1=>td σ H1 fun x H2=>ty σ H2 fun y H3=>∃a H4,x=.ref a/\gZ H3 a y v H4/\D.nx σ H4
section
variable {X:Cx}{o i e value:Expr}{pos pos' tpos:Pos}{td ty tv:TE}
theorem zA(hu:X.A.units+1<cLine)(hi:PE X i ty)(ho:PE X o td):PC X .In i o (Kh ty td):=by
 intro pins s σ H Q I h
 refine aJ (hi pins s σ H _ I h) fun iv s1⟨y,H1,I1,ry,q1⟩=>aJ (ho pins s1 σ H1 _ I1 q1) fun u s2⟨x,H2,I2,rx,a,ov,ex,g,q2⟩=>?_
 subst ex
 obtain rfl:u=Value.ref a:=rx
 exact Ii hu I2 g ry fun s3 I3=>⟨.bl ov.isSome,H2,I3,rfl,q2⟩
theorem sx(hu:X.A.units+1<cLine)(ho:PE X o td)(hi:PE X i ty)(hv:PE X value tv)(hs:swapsWith value (some (.Subscript o i pos')) pos.line X.env=pure false):
  PS X (.Assign [.Subscript o i pos'] value pos) (Fz td ty tv):=by
 intro pins s σ H D I h
 refine wpAny_Assign_Subscript (aJ (hv pins s σ H _ I h) fun r s1⟨v,H1,I1,rv,q1⟩=>aJ (ho pins s1 σ H1 _ I1 q1) fun u s2⟨x,H2,I2,rx,q2⟩=>aJ (hi pins s2 σ H2 _ I2 q2) fun iv s3⟨y,H3,I3,ry,a,H4,ex,g,q3⟩=>?_) hs
 subst ex
 obtain rfl:u=Value.ref a:=rx
 exact Fb hu I3 g ry rv fun s4 I4=>⟨σ,H4,I4,q3⟩
end
theorem Fo{P:Program}{w:World}{H:Hp}(h:Heap)(hb:sysModules<h.objs.size):cf P w H (h.push {cls:=.type "dict",data:=.dict #[]}) h.objs.size (.dK []):=
 ⟨Nat.zero_le _,beq_eq_false_iff_ne.mpr (Ne.symm (Nat.ne_of_lt hb)),[],.nil,Heap.DictOf.new h⟩
theorem Gj{P:Program}{w:World}{H:Hp}(h:Heap)(hb:sysModules<h.objs.size):cf P w H (h.push {cls:=.type "dict",data:=.dict #[]}) h.objs.size (.dT []):=
 ⟨Nat.zero_le _,beq_eq_false_iff_ne.mpr (Ne.symm (Nat.ne_of_lt hb)),[],.nil,_,#[],0,Heap.get?_push_size _ rfl,⟨rfl,rfl,rfl⟩,rfl,rfl,List.nodup_nil⟩
def K1:TE:=fun _ H Q=>∀p,H p=none->Q (.ref p) (upd H p (.dK []))
def HW:TE:=fun _ H Q=>∀p,H p=none->Q (.ref p) (upd H p (.dT []))
section
variable {X:Cx}{pos:Pos}
theorem zj:PE X (.Dict [] [] pos) K1:=fun pins s σ H Q I h=>
 wpAny_Dict_empty ⟨.ref s.heap.objs.size,_,I.laid (a:=s.heap.objs.size) (o:=.dK []) (t':=s.toks) (fun _ _ q=>Heap.get?_push_of_some _ q) (Nat.le_refl _) (Fo s.heap I.big),rfl,h _ (I.ax.fresh (Nat.le_refl _))⟩
theorem J8:PE X (.Dict [] [] pos) HW:=fun pins s σ H Q I h=>
 wpAny_Dict_empty ⟨.ref s.heap.objs.size,_,I.laid (a:=s.heap.objs.size) (o:=.dT []) (t':=s.toks) (fun _ _ q=>Heap.get?_push_of_some _ q) (Nat.le_refl _) (Gj s.heap I.big),rfl,h _ (I.ax.fresh (Nat.le_refl _))⟩
end
structure M2(X:Cx)(o:Expr)(m:Str)(apos:Pos)(e f:Expr)(cpos:Pos):Prop where
 base:attributeBase o m X.env (eval o X.env)=eval o X.env
 LP:((backTo cpos (starEach [e,f] X.env)).all (fun x=> !x.1)&&(backToKw cpos (keywordEach [] X.env)).all (fun x=>x.1.isSome)
  &&decide (([e,f]:List Expr).length+([]:List Keyword).length+(if([]:List Keyword).isEmpty then 0 else 1)<30))=true
 line:(apos.endLine==cpos.line)=true
 trees:backTo cpos (starEach [e,f] X.env)=[(false,eval e X.env),(false,eval f X.env)]
def yY(H:Hp)(a:Addr):Prop:=(∃kvs,Rd H a (.dK kvs))\/∃kvs,Rd H a (.dT kvs)
theorem JJ{X:Cx}{pins:List (Addr×Obj)}{σ:St}{H:Hp}{s:Shared}{a:Addr}(I:Inv X pins σ H s)(d:yY H a):
  s.TypeIs (.ref a) "dict"/\(∀b,Value.ref a=.ref b->∃ob,s.heap.get? b=some ob/\ob.dict=none)/\(a==sysModules)=false:=by
 rcases d with ⟨kvs,e⟩|⟨kvs,e⟩
 ·obtain⟨_,hd,vs,_,dd⟩:=rC I.ax e
  refine⟨dd.typeIs,fun b q=>?_,hd⟩
  cases q
  obtain⟨ob,_,_,h1,h2,_⟩:=dd
  exact⟨ob,h1,h2.2.1⟩
 ·obtain⟨_,hd,xs,_,dd⟩:=r8 I.ax e
  refine⟨dd.typeIs,fun b q=>?_,hd⟩
  cases q
  obtain⟨ob,_,_,h1,h2,_⟩:=dd
  exact⟨ob,h1,h2.2.1⟩
section
variable {X:Cx}{pins:List (Addr×Obj)}{σ:St}{H:Hp}{s:Shared}{a:Addr}{y d:V}{u r:Value}{o:Option V}{A:Around}{E:Value->Shared->Prop}
theorem Lu{Q:Value->Shared->Prop}(hu:A.units+1<cLine)(I:Inv X pins σ H s)(g:fS H a y o)(ry:RelV y u)(rd:RelV d r)(h:∀w' s',Inv X pins σ H s'->RelV (o.getD d) w'->Q w' s'):
  wpAny (model X.prog X.w) A (call (.builtin "dict.get") [.ref a,u,r]) Q E s:=by
 rcases g with ⟨kvs,k,e,ey,l⟩|⟨kvs,k,b,e,ey,eb,l⟩
 ·subst ey
  obtain⟨z,hd,vs,rel,dd⟩:=rC I.ax e
  refine call_meetsIn PySem.F.slot_dict_get dd.typeIs PySem.F.entry_dict_get (PySem.F.args_dict_get_3 _ _ _) (meets_dict_get_default (dY X.prog X.w) a (nE ry) hd r) ⟨_,dd.mapOf,h _ _ (I.tok _) ?_⟩
  rw[l]
  exact(rel.val k).getD rd
 ·subst ey
  cases (show u=Value.ref b from ry)
  obtain⟨z,hd,xs,rel,dd⟩:=r8 I.ax e
  refine call_meetsIn PySem.F.slot_dict_get dd.typeIs PySem.F.entry_dict_get (PySem.F.args_dict_get_3 _ _ _) (meetsH_dict_get_default (tupleKind (dY X.prog X.w)) a b hd r) ⟨tupleKind_room_in1 hu,k,xs,r0 I.ax eb,dd,h _ _ (I.tok _) ?_⟩
  rw[l]
  exact(rel.val k).getD rd
end
def MN(td ty tx:TE):TE:=fun σ H Q=>td σ H fun x H1=>∃a,x=.ref a/\yY H1 a/\ty σ H1 fun y H2=>tx σ H2 fun z H3=>∃o,fS H3 a y o/\Q (o.getD z) H3
section
variable {X:Cx}{o e f:Expr}{apos cpos:Pos}{td ty tx:TE}
theorem yZ(hu:X.A.units+1<cLine)(ho:PE X o td)(he:PE X e ty)(hf:PE X f tx)(m:M2 X o "get" apos e f cpos):PE X (.Call (.Attribute o "get" apos) [e,f] [] cpos) (MN td ty tx):=by
 intro pins s σ H Q I h
 refine wpAny_Call_method m.base m.LP m.line PySem.F.plainAttrs_dict PySem.F.slot_dict_get PySem.F.type_dict_get (aJ (ho pins s σ H _ I h) fun u s1⟨x,H1,I1,rx,a,ex,d,q1⟩=>?_)
 subst ex
 obtain rfl:u=Value.ref a:=rx
 obtain⟨t1,t2,_⟩:=JJ I1 d
 refine⟨t1,t2,?_⟩
 rw[m.trees]
 refine Calls.callWith_builtin rfl (Calls.evalArgs_plain (Calls.spliced_cons (aJ (he pins s1 σ H1 _ I1 q1) fun iv s2⟨y,H2,I2,ry,q2⟩=>
  Calls.spliced_cons (aJ (hf pins s2 σ H2 _ I2 q2) fun fv s3⟨z,H3,I3,rz,ov,g,q3⟩=>Calls.spliced_nil ?_))))
 exact Lu hu I3 g ry rz fun w' s4 I4 rw'=>⟨_,H3,I4,rw',q3⟩
end
section
variable {X:Cx}{pins:List (Addr×Obj)}{σ:St}{H:Hp}{s:Shared}{a:Addr}{kvs:List (Key×V)}{A:Around}{E:Value->Shared->Prop}
end
section
variable {X:Cx}{pins:List (Addr×Obj)}{σ:St}{H:Hp}{s:Shared}{a:Addr}{y:V}{u:Value}{A:Around}{E:Value->Shared->Prop}
end
end L2
namespace L2
open PySem PySem.Spec PyProof.Rows
section
variable {prog:Program}{w:World}{A:Around}{E:Value->Shared->Prop}
end
section
variable {X:Cx}
end
end L2
namespace L2
open PySem PySem.Spec PyProof.Rows
section
variable {X:Cx}{pins:List (Addr×Obj)}{σ:St}{H:Hp}{s:Shared}{h':Heap}
end
section
variable {X:Cx}
end
def Co(i j c:Int)(n:Nat):Prop:=c≠0/\c.natAbs<1073741824/\Builtin.Range.small i j c=true/\Builtin.Range.rangeSize i j c=n
theorem Co.neg{i j:Int}(ha: -(2^62)<=i)(ha':i<2^62)(hb: -(2^62)<=j)(hb':j<2^62):Co i j (-1) (i-j).toNat:=
 ⟨by decide,by decide,PySem.W.small_down ha ha' hb hb',PySem.W.rangeSize_downNat i j⟩
section
variable {X:Cx}{tg:Expr}
end
section
variable {X:Cx}{tg:Expr}
end
section
variable {prog:Program}{w:World}{A:Around}{E:Value->Shared->Prop}{s:Shared}
end
section
variable {X:Cx}{pins:List (Addr×Obj)}{σ:St}{H:Hp}{s:Shared}{d:Addr}{o:Obj}
end
section
variable {P:Program}{w:World}{K:PySem.W.Frag}{tg:Expr}{d:Addr}{o:Obj}{es:Array DictEntry}{ep:Nat}
end
section
variable {X:Cx}{tg e:Expr}{td:TE}{apos cpos:Pos}
end
end L2
section
namespace Bits
open PySem PyProof.Rows
end Bits
end
section
namespace TL
open PySem PySem.Builtin PySem.Builtin.Str PySem.StrLaws
abbrev tl(x:Str):List Nat:=x.cps.toList
theorem C6(x y:Str):tl (x++y)=tl x++tl y:=by
 show(x++y).cps.toList=_
 rw[Str.cps_append,Array.toList_append]
def pre(S l:List Nat):Bool:=l.take S.length==S
def par(S:List Nat):List Nat->List Nat->Option (List Nat×List Nat)
 |_,[]=>none
 |acc,c::r=>if pre S (c::r)=true then some (acc,(c::r).drop S.length)else par S (acc++[c]) r
def mO(S:List Nat):List (List Nat)->List Nat
 |[]=>[]
 |[p]=>p
 |p::q::r=>p++(S++mO S (q::r))
theorem B0(y:Str):∀parts:List Str,tl (Str.join y parts)=mO (tl y) (parts.map tl)
 |[]=>rfl
 |[_]=>rfl
 |x::z::r=>by
  show tl (x++y++Str.join y (z::r))=tl x++(tl y++mO (tl y) ((z::r).map tl))
  rw[C6,C6,B0 y (z::r),List.append_assoc]
theorem join_eq(y:Str)(parts:List Str):Txt.join y parts=Str.join y parts:=glued_eq_join y parts
end TL
end
namespace L2
open PySem PySem.Spec PyProof.Rows
theorem yi:∀{ys:List Str}{us:List Value},aF (ys.map V.str) us->StrsAre us ys
 |[],_,.nil=>.nil
 |y::ys,_,.cons r t=>by
  obtain⟨k,rfl⟩:=r
  exact .cons y k (yi t)
section
variable {X:Cx}{pins:List (Addr×Obj)}{σ:St}{H:Hp}{s:Shared}{Q:VK}
end
section
variable {X:Cx}
theorem Fu:kI X "str.join" (fun x xs H Q=>∃a p,∃ys:List Str,x=.str a/\xs=[.ref p]/\(aO X.K H p (ys.map V.str)\/fo X.K H p (ys.map V.str))/\
  (ys.map (·.length)).sum+ys.length*a.length<=16777216/\Q (.str (Txt.join a ys)) H):=by
 intro pins s σ H x xs v us Q I rx rs h
 obtain⟨a,p,ys,rfl,rfl,hp,hz,h⟩:=h
 obtain⟨t,rfl⟩:=rx
 cases rs with
 |cons r1 rs=>
  cases rs
  cases r1
  rcases hp with hp|hp
  ·obtain⟨its,r,⟨o,n,ho,hc,_,hd⟩,_⟩:=I.list hp
   exact PyProof.Rows.join_list (items:=its.toArray) ⟨o,ho,hc,n,hd⟩ (by rw[List.toList_toArray];exact yi r) hz fun t' k=>⟨.str _,H,I.tok k,⟨t',rfl⟩,h⟩
  ·obtain⟨its,r,ht,_⟩:=I.tuple hp
   exact PyProof.Rows.join_tuple (items:=its.toArray) ht (by rw[List.toList_toArray];exact yi r) hz fun t' k=>⟨.str _,H,I.tok k,⟨t',rfl⟩,h⟩
end
section
variable {X:Cx}{o e:Expr}{to te:TE}
def AY(r:V->List V->Hp->VK->Prop)(to te:TE):TE:=fun σ H Q=>to σ H fun x H1=>(∃a,x=.str a)/\te σ H1 fun y H2=>r x [y] H2 Q
theorem J2{id:String}{name:Str}{apos pos:Pos}{r:V->List V->Hp->VK->Prop}(slot:Slot "str" name id)(ty:typeOf (.builtin id)=pure (.type "method_descriptor"))(rule:kI X id r)(ho:PE X o to)(he:PE X e te)
  (hs:starEach [e] X.env=[(false,eval e X.env)]:=by rfl) (hbase:attributeBase o name X.env (eval o X.env)=eval o X.env:=by rfl) (hline:(apos.endLine==pos.line)=true:=by rfl):
  PE X (.Call (.Attribute o name apos) [e] [] pos) (AY r to te):=by
 intro pins s σ H Q I h
 refine PySem.Call_method1 hbase hs hline (aJ (ho pins s σ H _ I h) fun v s1⟨x,H1,I1,r1,q1⟩=>?_)
 obtain⟨⟨a,rfl⟩,q1⟩:=q1
 obtain⟨t,rfl⟩:=_root_.id r1
 refine⟨"str",_,F.plainAttrs_str,slot,ty,typeIs_str _ _ _,(fun _ e=>nomatch e),Calls.callWith_builtin rfl (Calls.evalArgs_plain (Calls.spliced_cons ?_))⟩
 exact aJ (he pins s1 σ H1 _ I1 q1) fun u s2⟨y,H2,I2,r2,q2⟩=>Calls.spliced_nil (rule pins s2 σ H2 _ [y] _ [u] Q I2 r1 (.cons r2 .nil) q2)
theorem Eu{apos pos:Pos}(ho:PE X o to)(he:PE X e te)(hs:starEach [e] X.env=[(false,eval e X.env)]:=by rfl)(hbase:attributeBase o "join" X.env (eval o X.env)=eval o X.env:=by rfl)(hline:(apos.endLine==pos.line)=true:=by rfl):
  PE X (.Call (.Attribute o "join" apos) [e] [] pos) (AY (fun x xs H Q=>∃a p,∃ys:List Str,x=.str a/\xs=[.ref p]/\(aO X.K H p (ys.map V.str)\/fo X.K H p (ys.map V.str))/\
   (ys.map (·.length)).sum+ys.length*a.length<=16777216/\Q (.str (Txt.join a ys)) H) to te):=
 J2 F.slot_str_join F.type_str_join Fu ho he hs hbase hline
end
end L2
namespace L2
open PySem PySem.Spec PyProof.Rows
section
variable {X:Cx}
end
end L2
namespace Att
open PySem PySem.W PySem.Calls PyProof.Rows
section
variable {prog:Program}{w:World}{A:Around}{E:Value->Shared->Prop}{s:Shared}{K:Frag}
end
end Att
namespace L2
open PySem PySem.Spec PyProof.Rows
end L2
namespace L2
open PySem PySem.Spec PyProof.Rows
end L2
namespace L2
open PySem PySem.Spec PyProof.Rows
def inClass(s:Stmt)(j:Nat):Stmt:=match s with
 | .ClassDef _ _ _ body _ _ _ _ _ _ _=>body.getD j (.Pass ⟨0,0,0,0⟩)
 |_=>.Pass ⟨0,0,0,0⟩
def jE(s:Stmt):Arguments:=match s with
 | .FunctionDef _ a _ _ _ _ _ _ _ _=>a
 |_=>{posonlyargs:=[],args:=[],vararg:=none,kwonlyargs:=[],kw_defaults:=[],kwarg:=none,defaults:=[]}
def gN(s:Stmt):List Stmt:=match s with
 | .FunctionDef _ _ b _ _ _ _ _ _ _=>b
 |_=>[]
def aD(s:Stmt):Scope:=match s with
 | .FunctionDef _ _ _ _ _ _ sc _ _ _=>sc
 |_=>{kind:=.function,names:=[],isGenerator:=false,isCoroutine:=false}
abbrev bx:dz:=fun _ _ _ _ _ _=>False
abbrev E0:XK:=fun _ _ _=>False
theorem a3{X:Cx}:Passes bx X E0:=fun _ _ _ _ _ _ _ h=>h.elim
structure aG(K:PySem.W.Frag)(x qual:Str)(st:Stmt)(f:Addr)(fd:FuncData):Prop where
 ex:∃(oc:Value)(od:Option Addr)(kV doc pm:Value)(an:Option Addr)(cdv ct:Value)(osl:Array (Option Value)),
  fd=PySem.W.fnOf x qual (jE st) (gN st) (aD st) .none kV doc pm an cdv ct/\K.lookup f=some ⟨oc,od,.func fd,osl⟩/\PySem.W.codeIn K cdv qual=true
 kp:PySem.W.keepIn K (.ref f)=true
section
variable {P:Program}{w:World}{K:PySem.W.Frag}{mg:Str->Option Value}{base:Heap}
theorem aG.ok{x qual:Str}{st:Stmt}{f:Addr}{fd:FuncData}{N ps:List Str}{k:Nat}{sp:Sp}(F:aG K x qual st f fd)(S:aI N ps (aD st))(len:∀vs H Q E,sp vs H Q E->vs.length=ps.length)
  (hbody:∀(cdv:Value)(A:Around)(outer:List Env)(s:Shared)(H:Hp)(vs:List V)(Q:VK)(E:XK),bp k (A.deeper (envOfC qual (aD st) s.heap.objs.size f cdv))->sp vs H Q E->
   ∃t,dI (fA bx P w K mg base N qual (aD st) f cdv A outer s H E).iY (gN st) t/\t {nx:=fun _ H'=>Q .aw H',rt:=Q} (start N vs) H):aB P w K mg base bx (k+1) f fd ps sp:=by
 obtain⟨oc,od,kV,doc,pm,an,cdv,ct,osl,rfl,lk,hcd⟩:=F.ex
 refine B3 lk hcd S len fun A outer s H vs Q E hr hsp=>?_
 obtain⟨t,h,q⟩:=hbody cdv A outer s H vs Q E hr hsp
 exact⟨t,h.iY,q⟩
theorem aG.binds{x qual:Str}{st:Stmt}{f:Addr}{fd:FuncData}{ps:List Str}(F:aG K x qual st f fd)
  (h:∀(kV doc pm:Value)(an:Option Addr)(cdv ct:Value)(us:List Value),us.length=ps.length->bindArgs (PySem.W.fnOf x qual (jE st) (gN st) (aD st) .none kV doc pm an cdv ct) ⟨us,[]⟩=pure (ps.zip us)):Binds K fd ps []:=by
 obtain⟨oc,od,kV,doc,pm,an,cdv,ct,osl,rfl,lk,hcd⟩:=F.ex
 exact .all (h kV doc pm an cdv ct)
end
theorem jy{A:Around}{k:Nat}(hr:bp k A):A.units+1<cLine:=Nat.lt_of_le_of_lt (Nat.add_le_add_left (by decide:1<=64) _) hr.units
theorem HD{n:Nat}(h:n<=1000):n<sizeLine:=Nat.lt_of_le_of_lt h (by decide)
section
variable {X:Cx}
theorem pv(i:Nat){x:Str}{pos:Pos}(hN:X.N[i]? =some x:=by rfl)(hv:mK X.env.scope x:=by first|exact Or.inl rfl|exact Or.inr (Or.inl rfl)|exact Or.inr (Or.inr rfl))(hd:(x==("__debug__":Str))=false:=by decide)
  (hcd:(x==("__classdict__":Str))=false:=by decide):PE X (.Name x pos) (bA i):=J4 hN hv hd hcd
end
theorem df{A B:Prop}(h:B):if false=true then A else B:=by
 rw[if_neg Bool.false_ne_true]
 exact h
theorem b5{A B:Prop}(h:A):if true=true then A else B:=by
 rw[if_pos rfl]
 exact h
theorem aT{c A B:Prop}[Decidable c](h1:c->A)(h2:¬c->B):if c then A else B:=by
 by_cases h:c
 ·rw[if_pos h]
  exact h1 h
 ·rw[if_neg h]
  exact h2 h
theorem nV{c A B:Prop}[Decidable c](hc:c)(h:B):if(!decide c)=true then A else B:=by
 rw[decide_eq_true hc]
 exact df h
def aN(H H':Hp):Prop:=∀b o,H b=some o->H' b=some o
theorem aN.refl(H:Hp):aN H H:=fun _ _ h=>h
theorem aN.trans{H H1 H2:Hp}(a:aN H H1)(b:aN H1 H2):aN H H2:=fun c o h=>b c o (a c o h)
theorem aN.free{H H':Hp}(e:aN H H'){l:Addr}(h:H' l=Option.none):H l=Option.none:=by
 cases q:H l with
 |none=>rfl
 |some o=>
  rw[e l o q]at h
  cases h
theorem aN.seq{K:PySem.W.Frag}{H H':Hp}{a:Addr}{xs:List V}(e:aN H H')(h:aO K H a xs):aO K H' a xs:=by
 rcases h with (h|⟨o,h⟩)|h
 ·exact .inl (.inl (e _ _ h))
 ·exact .inl (.inr ⟨o,e _ _ h⟩)
 ·exact .inr h
section
variable {κ:Type}[DecidableEq κ]
end
theorem aN.made{H H1:Hp}{x dx C:Addr}(nx:H x=Option.none)(nd:H dx=Option.none)(k:∀b o,(upd (upd H dx (.own x)) x (.ins C dx [])) b=some o->b≠x->H1 b=some o):aN H H1:=fun b o e=>
 k b o (by rw[ao (eS e nx),ao (eS e nd)];exact e) (eS e nx)
end L2
end
section
set_option Elab.async false
set_option linter.all false
set_option maxRecDepth 100000
set_option maxHeartbeats 4000000
namespace L2
open PySem PySem.Spec PyProof.Rows
open PySem.W (Looks)
section
variable {prog:Program}{w:World}{A:Around}{E:Value->Shared->Prop}{R:Result->Shared->Prop}{h:Heap}{g:Array GenState}{d:Drawn}{t:Nat}{os:OsState}
variable {nm q:Str}{C N:Addr}{bs bm:List Value}{hdct:Bool}{sn:List Str}{sub:List Value}{ab:Bool}{col:Option Bool}{dd:Option Addr}{k0 k1 k2 k3 k5:Option Value}
theorem EO{M:Model}{rest:List Value}{Q:Unit->Shared->Prop}(hC:h.get? C=some (excClassObj nm q C N bs bm hdct sn sub ab col dd k0 k1 k2 k3 k5 "Exception.__new__"))
  (hB:bm.contains (.type "Exception")=true) (hq:Q () ⟨h,g,d,t,os⟩):wpAny M A (checkBuiltinCall "Exception.__new__" ⟨.ref C::rest,[]⟩) Q E ⟨h,g,d,t,os⟩:=by
 have F:=PySem.F.excBase_Exception
 have c1:(Value.ref C::bm).contains (.type "Exception")=true:=by rw[List.contains_cons,hB,Bool.or_true]
 have hstar:=F.noStar
 simp only[checkBuiltinCall,F.newKind,F.newSplit,F.newRow]
 repeat (first|refine wpAny_loadPart_at hC ?_|(refine wpAny_isSubtype_exc hC ?_;rw[c1])|refine wpAny_staticBase_exc hC ?_|refine wpAny_madeBy_exc hC ?_|simp only[bne_self_eq_false,Bool.false_eq_true,if_false]|wp_step)
 exact hq
theorem MC{rest:List Value}(hC:h.get? C=some (excClassObj nm q C N bs bm hdct sn sub ab col dd k0 k1 k2 k3 k5 "Exception.__new__"))
  (hB:bm.contains (.type "Exception")=true) (hA:bm.contains (.type "AttributeError")=false) (hN:bm.contains (.type "NameError")=false) (hrest:rest.length<=sizeLine)
  (hq:R (.ok (.ret (.ref (h.objs.size+1)))) ⟨(h.push {cls:=.type "tuple",data:=.seq rest.toArray}).push
   {cls:=.ref C,data:=.fields #[.ref h.objs.size,.none,.none,.none,.bool false,.none]},g,d,t,os⟩):
  codeAny (model prog w) A (.builtin "Exception.__new__" ⟨.ref C::rest,[]⟩) R ⟨h,g,d,t,os⟩:=by
 have F:=PySem.F.excBase_Exception
 have hends:=F.ends
 have c1:(Value.ref C::bm).contains (.type "Exception")=true:=by rw[List.contains_cons,hB,Bool.or_true]
 have c2:(Value.ref C::bm).contains (.type "AttributeError")=false:=by rw[List.contains_cons,hA];rfl
 have c3:(Value.ref C::bm).contains (.type "NameError")=false:=by rw[List.contains_cons,hN];rfl
 refine codeAny_builtinAt F.entry ?_
 unfold Builtin.«BaseException.__new__»;refine PySem.wpAt_bind ?_
 show PySem.wpAt _ _ _ (stack>>=_) _ _ _
 refine PySem.wpAt_bind (PySem.wpAt_stack fun p below=>PySem.wpAt_of_wpAny ?_);wp_walk
 refine PySem.wpAt_of_wpAny ?_;rw[F.owner]
 repeat (first|with_reducible refine wpAny_madeHere_exc F.canon hC ?_|with_reducible refine wpAny_loadPart_at hC ?_|(with_reducible refine wpAny_isSubtype_exc hC ?_;first|rw[c1]|rw[c2]|rw[c3])|wp_step)
 show R _ _
 rw[Heap.size_push];exact hq
theorem LC{rest:List Value}{fI:Addr}{Q:Fin->Shared->Prop}(hC:h.get? C=some (excClassObj nm q C N bs bm hdct sn sub ab col dd k0 k1 k2 k3 k5 "Exception.__new__"))
  (hB:bm.contains (.type "Exception")=true) (hA:bm.contains (.type "AttributeError")=false) (hN:bm.contains (.type "NameError")=false) (hrest:rest.length<=sizeLine)
  (hi:Looks (model prog w) h (typeLookup (.ref C) "__init__") (some (.ref fI))) (hb:∀self,Looks (model prog w) h (bindSpecial (.ref fI) self) (.ref fI,[self]))
  (hq:∀h' e,Heap.MadeExcOf h h' e (.ref C) rest->h.objs.size<=e->
   wpAny (model prog w) A (call (.ref fI) (.ref e::rest)) (fun r s'=>r=.none/\Q (.done (.ret (.ref e))) s') E ⟨h',g,d,t,os⟩):
  wpAny (model prog w) A (Builtin.«type.__call__» ⟨.ref C::rest,[]⟩) Q E ⟨h,g,d,t,os⟩:=by
 have F:=PySem.F.excBase_Exception
 repeat (first|with_reducible refine wpAny_loadPart_at hC ?_|with_reducible refine wpAny_madeBy_exc hC ?_|wp_step)
 refine codeAny_call_builtin_code (Code.quiet_builtin _ F.quiet) (EO hC hB ?_)
 refine MC hC hB hA hN hrest ?_
 show wpAny _ _ _ _ _ _
 have kp:∀b o,h.get? b=some o->((h.push {cls:=.type "tuple",data:=.seq rest.toArray}).push {cls:=.ref C,data:=.fields #[.ref h.objs.size,.none,.none,.none,.bool false,.none]}).get? b=some o:=
  fun b o e=>Heap.get?_push_of_some _ (Heap.get?_push_of_some _ e)
 have hC1:=kp _ _ hC
 have hi1:=hi.keeps kp
 have hb1:=fun self=>(hb self).keeps kp
 have hget:((h.push {cls:=.type "tuple",data:=.seq rest.toArray}).push {cls:=.ref C,data:=.fields #[.ref h.objs.size,.none,.none,.none,.bool false,.none]}).get? (h.objs.size+1)=
   some {cls:=.ref C,data:=.fields #[.ref h.objs.size,.none,.none,.none,.bool false,.none]}:=by heap_get
 have cC:(Value.ref C::bm).contains (.ref C)=true:=by simp
 unfold isInstance
 repeat (first|with_reducible refine wpAny_loadPart_at hget ?_|(with_reducible refine wpAny_isSubtype_exc hC1 ?_;rw[cC])|wp_step)
 show wpAny _ _ (typeLookup (.ref C) _) _ _ _
 refine hi1.at ?_
 refine wpAny_holding (wpAny_bind ((hb1 _).at ?_))
 refine wpAny_bind (wpAny_mono (hq _ (h.objs.size+1) ⟨kp,Heap.get?_none_of_le (Nat.le_succ _),h.objs.size,hget,Heap.get?_none_of_le (Nat.le_refl _),?_⟩ (Nat.le_succ _)) (fun r s' hr=>?_) fun _ _ x=>x)
 ·exact Heap.get?_push_of_some _ (Heap.get?_push_at rfl rfl)
 ·obtain⟨rfl,hQ⟩:=hr
  wp_walk
  exact hQ
theorem x_call{rest:List Value}{fI:Addr}{Q:Value->Shared->Prop}(hC:h.get? C=some (excClassObj nm q C N bs bm hdct sn sub ab col dd k0 k1 k2 k3 k5 "Exception.__new__"))
  (hB:bm.contains (.type "Exception")=true) (hA:bm.contains (.type "AttributeError")=false) (hN:bm.contains (.type "NameError")=false) (hrest:rest.length<=sizeLine)
  (hi:Looks (model prog w) h (typeLookup (.ref C) "__init__") (some (.ref fI))) (hb:∀self,Looks (model prog w) h (bindSpecial (.ref fI) self) (.ref fI,[self]))
  (hq:∀h' e,Heap.MadeExcOf h h' e (.ref C) rest->h.objs.size<=e->
   wpAny (model prog w) (A.under (.builtin "type.__call__" ⟨.ref C::rest,[]⟩)) (call (.ref fI) (.ref e::rest)) (fun r s'=>r=.none/\Q (.ref e) s') E ⟨h',g,d,t,os⟩):
  wpAny (model prog w) A (call (.ref C) rest) Q E ⟨h,g,d,t,os⟩:=by
 have f1:=tc_lookup
 have f2:=tc_bind (.ref C)
 have hT:(⟨h,g,d,t,os⟩:Shared).TypeIs (.ref C) "type":=⟨_,hC,rfl⟩
 refine wpAny_call (codeAny_of_tree ?_)
 show wpAny _ _ (callAny (.ref C) _) _ _ _
 repeat (any_goals (first|assumption|with_reducible refine wpAny_loadPart_at hC ?_|wp_step))
 exact⟨rfl,codeAny_call_builtin_at (Code.quiet_builtin _ (by decide +kernel)) entry_typeCall (wpAny_check_type_call_sub hC (LC hC hB hA hN hrest hi hb fun h' e hm he=>hq h' e hm he))⟩
end
end L2
end
section
set_option Elab.async false
set_option linter.all false
set_option maxRecDepth 100000
set_option maxHeartbeats 4000000
namespace L2
open PySem PySem.Spec PyProof.Rows
open PySem.W (Looks)
def kL(h:Heap)(e:Addr)(cls:Value)(dx:Option Addr)(tb:Value):Prop:=∃oe vs,h.get? e=some oe/\oe.cls=cls/\oe.dict=dx/\oe.data=.fields vs/\vs[1]? =some tb
def Rest(h:Heap)(T:Addr):Prop:=∃oT ts,h.get? T=some oT/\oT.data=.fields ts/\ts[3]? =some .none
structure qY(fs ex:List Addr)(h h':Heap):Prop where
 keep:∀b o,h.get? b=some o->b∉ex->b∉fs->h'.get? b=some o
 slot:∀b o,h.get? b=some o->b∉ex->b∈fs->∃sl,h'.get? b=some {o with slots:=sl}
 more:h.objs.size<=h'.objs.size
section
variable {M:Model}{A:Around}{E:Value->Shared->Prop}{s:Shared}{base:Heap}{env:Env}{outer:List Env}{L e:Addr}{Q:Unit->Shared->Prop}
theorem CT{oe:Obj}{vs:Array Value}{head:Value}{hadNext:Bool}(hfr:A.frames=some (env::outer))(hl:s.heap.FunFrames base (env::outer))(hf:env.frame=some L)
  (he:s.heap.get? e=some oe) (hd:oe.data=.fields vs) (hsz:1<vs.size)
  (hQ:∀h' T,qY (ck (env::outer)) [e] s.heap h'->s.heap.objs.size<=T->kL h' e oe.cls oe.dict (.ref T)->Rest h' T->T≠e->Q () {s with heap:=h'}):
  wpAny M A (do let a <-frameOf env;let pl <-entryPlaceOf L hadNext;let b <-EntryCells.newEntry head a .none (rawInt L) .none pl;setField (.ref e) 1 b) (fun _ s'=>wpAny M A (setFlight (.ref e) none) Q E s') E s:=by
 have enf:e∉ck (env::outer):=fun hm=>by
  obtain⟨_,o,ho,hn⟩:=hl.mem hm
  rw[he]at ho;cases ho;exact hn vs hd
 refine wpAny_bind (wpAny_frameOf_fun hfr hl hf fun h1 z1=>wpAny_bind (wpAny_entryPlaceOf fun pl hpl=>?_))
 unfold EntryCells.newEntry newFields;refine wpAny_bind (wpAny_newObj_type ?_ (hpl.sizeOk5 _ _ _ _ _))
 have e1:h1.get? e=some oe:=(z1.2.1 e enf).trans he
 generalize ho:({cls:=.type "traceback",dict:=none,data:=.fields ([head,.ref L,.none,rawInt L,.none]++(if pl.isEmpty then List.replicate 6 Value.none else pl)).toArray}:Obj)=ot
 have dt:ot.data=.fields ([head,.ref L,.none,rawInt L,.none]++(if pl.isEmpty then List.replicate 6 Value.none else pl)).toArray:=by rw[<-ho]
 have ft:ot.isFreed=false:=by rw[<-ho];rfl
 clear ho
 have e2:(h1.push ot).get? e=some oe:=Heap.get?_push_of_some _ e1
 have t2:(h1.push ot).get? h1.objs.size=some ot:=Heap.get?_push_size h1 ft
 have ne:h1.objs.size≠e:=Nat.ne_of_gt (Heap.lt_size e1)
 refine wpAny_setField e2 hd hsz ?_
 have d3:=Obj.data_mapFields hd (·.setIfInBounds 1 (Value.ref h1.objs.size))
 have e3:=Heap.get?_update_self (Obj.mapFields (·.setIfInBounds 1 (Value.ref h1.objs.size))) e2 (Obj.isFreed_of_fields d3)
 have t3:((h1.push ot).update e (Obj.mapFields (·.setIfInBounds 1 (Value.ref h1.objs.size)))).get? h1.objs.size=some ot:=(Heap.get?_update_other _ _ (Ne.symm ne)).trans t2
 unfold setFlight
 refine wpAny_bind (wpAny_field e3 d3 (x:=.ref h1.objs.size) (by simp[hsz]) ?_)
 rw[if_pos (show(Value.ref h1.objs.size !=Value.none)=true from by simp)]
 have z3:3<([head,.ref L,.none,rawInt L,.none]++(if pl.isEmpty then List.replicate 6 Value.none else pl)).toArray.size:=by
  simp only[List.size_toArray,List.length_append,List.length_cons,List.length_nil];omega
 refine wpAny_setField t3 dt z3 ?_
 have d4:=Obj.data_mapFields dt (·.setIfInBounds 3 ((none:Option Addr).elim Value.none fun f=>rawInt f))
 have t4:=Heap.get?_update_self (Obj.mapFields (·.setIfInBounds 3 ((none:Option Addr).elim Value.none fun f=>rawInt f))) t3 (Obj.isFreed_of_fields d4)
 have kp:∀b o,b≠e->h1.get? b=some o->(((h1.push ot).update e (Obj.mapFields (·.setIfInBounds 1 (Value.ref h1.objs.size)))).update h1.objs.size
   (Obj.mapFields (·.setIfInBounds 3 ((none:Option Addr).elim Value.none fun f=>rawInt f)))).get? b=some o:=fun b o nb q=>by
  rw[Heap.get?_update_other _ _ (Nat.ne_of_gt (Heap.lt_size q)),Heap.get?_update_other _ _ (Ne.symm nb)]
  exact Heap.get?_push_of_some _ q
 refine hQ _ h1.objs.size ⟨fun b o q nb nf=>kp b o (fun z=>nb (by rw[z];exact List.Mem.head _)) ((z1.2.1 b nf).trans q),fun b o q nb nf=>?_,?_⟩ (Nat.le_of_eq z1.1.symm) ?_ ?_ ne
 ·obtain⟨sl,hs⟩:=z1.2.2 b o q
  exact⟨sl,kp b _ (fun z=>nb (by rw[z];exact List.Mem.head _)) hs⟩
 ·rw[Heap.size_after_update,Heap.size_after_update,Heap.size_push,z1.1]
  exact Nat.le_succ _
 ·refine⟨_,_,(Heap.get?_update_other _ _ ne).trans e3,Obj.cls_mapFields _ _,?_,d3,by simp[hsz]⟩
  obtain⟨c0,dd0,dt0,sl0⟩:=oe
  cases dt0<;>rfl
 ·refine⟨_,_,t4,d4,?_⟩
  rw[Array.getElem?_setIfInBounds_self]
  rw[if_pos z3]
  rfl
theorem Fw{cls:Value}{dx:Option Addr}(hfr:A.frames=some (env::outer))(hl:s.heap.FunFrames base (env::outer))(hf:env.frame=some L)(he:kL s.heap e cls dx .none)
  (hQ:∀h' T,qY (ck (env::outer)) [e] s.heap h'->s.heap.objs.size<=T->kL h' e cls dx (.ref T)->Rest h' T->T≠e->Q () {s with heap:=h'}):
  wpAny M A (noteFrame (.ref e) env) (fun _ s2=>wpAny M A (setFlight (.ref e) none) Q E s2) E s:=by
 obtain⟨oe,vs,h0,rfl,rfl,hd,h1⟩:=he
 unfold noteFrame
 simp only[hf]
 refine wpAny_bind (wpAny_field h0 hd h1 ?_)
 rw[if_neg (by decide)]
 exact CT hfr hl hf h0 hd (Array.getElem?_eq_some_iff.mp h1).1 hQ
theorem CH{cls:Value}{dx:Option Addr}{T0:Addr}(hfr:A.frames=some (env::outer))(hl:s.heap.FunFrames base (env::outer))(hf:env.frame=some L)(he:kL s.heap e cls dx (.ref T0))(hT:Rest s.heap T0)(hne:T0≠e)
  (hQ:∀h' T,qY (ck (env::outer)) [e,T0] s.heap h'->s.heap.objs.size<=T->kL h' e cls dx (.ref T)->Rest h' T->T≠e->(∃o,h'.get? T0=some o)->Q () {s with heap:=h'}):
  wpAny M A (noteFrame (.ref e) env) (fun _ s2=>wpAny M A (setFlight (.ref e) none) Q E s2) E s:=by
 obtain⟨oe,vs,h0,rfl,rfl,hd,h1⟩:=he
 obtain⟨oT,ts,t0,dT,t3⟩:=hT
 unfold noteFrame
 simp only[hf]
 refine wpAny_bind (wpAny_field h0 hd h1 ?_)
 rw[if_pos (show(Value.ref T0 !=Value.none)=true from by simp)]
 refine wpAny_bind (wpAny_field t0 dT t3 ?_)
 rw[if_neg (show ¬((Value.none==rawInt L)=true)from by simp[rawInt])]
 refine wpAny_bind (wpAny_setField t0 dT (Array.getElem?_eq_some_iff.mp t3).1 ?_)
 have oth:∀b,b≠T0->(s.heap.update T0 (Obj.mapFields (·.setIfInBounds 3 Value.none))).get? b=s.heap.get? b:=fun b hb=>Heap.get?_update_other _ _ (Ne.symm hb)
 have nrec:∀b o,s.heap.get? b=some o->(∀us,o.data≠ .fields us)->b≠T0:=fun b o q nf z=>by
  rw[z,t0]at q;cases q;exact nf ts dT
 refine CT (s:={s with heap:=s.heap.update T0 (Obj.mapFields (·.setIfInBounds 3 Value.none))}) hfr (hl.of_keeps fun b o q nf=>⟨o,(oth b (nrec b o q nf)).trans q,rfl⟩) hf ((oth e (Ne.symm hne)).trans h0) hd
  (Array.getElem?_eq_some_iff.mp h1).1 fun h' T F a b c d=>hQ h' T ⟨fun x o q nx nf=>?_,fun x o q nx nf=>?_,?_⟩ ?_ b c d ?_
 ·have n2:x≠T0:=fun z=>nx (by rw[z];exact List.Mem.tail _ (List.Mem.head _))
  exact F.keep x o ((oth x n2).trans q) (fun z=>nx (by rw[List.mem_singleton.mp z];exact List.Mem.head _)) nf
 ·have n2:x≠T0:=fun z=>nx (by rw[z];exact List.Mem.tail _ (List.Mem.head _))
  exact F.slot x o ((oth x n2).trans q) (fun z=>nx (by rw[List.mem_singleton.mp z];exact List.Mem.head _)) nf
 ·have:=F.more
  rw[Heap.size_after_update]at this
  exact this
 ·have:=a
  rw[Heap.size_after_update]at this
  exact this
 ·have q:=Heap.get?_update_self (Obj.mapFields (·.setIfInBounds 3 Value.none)) t0 (Obj.isFreed_of_fields (Obj.data_mapFields dT _))
  refine⟨_,F.keep T0 _ q (fun z=>hne (List.mem_singleton.mp z)) fun z=>?_⟩
  obtain⟨_,o,ho,hn⟩:=hl.mem z
  rw[t0]at ho;cases ho;exact hn ts dT
end
end L2
end
section
set_option Elab.async false
set_option linter.all false
set_option maxRecDepth 100000
set_option maxHeartbeats 4000000
namespace L2
open PySem PySem.Spec PyProof.Rows
open PySem.W (Looks)
def a8(P:Program)(w:World):dz:=fun outer H s E e s'=>∃(ea:Addr)(cls:Value)(dx T:Addr)(H':Hp),e=.ref ea/\s'.os=s.os/\AllBare s'.gens/\Un (ck outer) [] H H' s.heap s'.heap/\bz P w H' s'.heap/\
 kL s'.heap ea cls (some dx) (.ref T)/\Rest s'.heap T/\T≠ea/\s.heap.objs.size<=ea/\s.heap.objs.size<=T/\H' ea=none/\H' T=none/\E cls (some dx) H'
section
variable {X:Cx}{pins:List (Addr×Obj)}{σ:St}{H:Hp}{s:Shared}
theorem Ct{env:Env}{outer:List Env}{L:Addr}(hf:env.frame=some L):ck (env::outer)=L::ck outer:=by
 unfold ck;rw[List.filterMap_cons,hf]
theorem Inv.zO{ex:List Addr}{h':Heap}{env:Env}{outer:List Env}(I:Inv X pins σ H s)(hs:X.stack=env::outer)(ho:X.outer=outer)(hf:env.frame=some X.env.locals)(hx:X.ex=[])(F:qY (ck (env::outer)) ex s.heap h')
  (hz:∀b∈ex,X.bX.heap.objs.size<=b/\H b=none):Un (ck outer) [] X.mY H X.bX.heap h'/\bz X.prog X.w H h':=by
 have B:=I.base
 rw[hx,show X.fs=ck outer by unfold Cx.fs;rw[ho]]at B
 have nex:∀b o,X.bX.heap.get? b=some o->b∉ex:=fun b o q z=>Nat.lt_irrefl _ (Nat.lt_of_lt_of_le (Heap.lt_size q) (hz b z).1)
 have nl:∀b o,X.bX.heap.get? b=some o->b≠X.env.locals:=fun b o q z=>by
  have:=I.ok.above
  rw[<-z]at this
  exact Nat.lt_irrefl _ (Nat.lt_of_lt_of_le (Heap.lt_size q) this)
 refine⟨⟨fun b o q n nf _=>F.keep b o (B.keep b o q n nf (by simp)) (nex b o q) ?_,fun b o q n hm _=>?_,fun b o q n _=>B.free b o q n (by simp),fun b o q _=>?_,B.eF,B.d7,B.eI⟩,fun a o q=>?_⟩
 ·rw[Ct hf]
  intro z
  rcases List.mem_cons.mp z with z|z
  ·exact nl b o q z
  ·exact nf z
 ·obtain⟨sl,e1⟩:=B.slot b o q n hm (by simp)
  obtain⟨sl2,e2⟩:=F.slot b _ e1 (nex b o q) (by rw[Ct hf];exact List.mem_cons_of_mem _ hm)
  exact⟨sl2,e2⟩
 ·obtain⟨o',e1⟩:=B.there b o q (by simp)
  by_cases hm:b∈ck (env::outer)
  ·obtain⟨sl2,e2⟩:=F.slot b _ e1 (nex b o q) hm
   exact⟨_,e2⟩
  ·exact⟨_,F.keep b _ e1 (nex b o q) hm⟩
 ·have nf:∀b u,H b=some u->b∉ck (env::outer):=fun b u r z=>by
   have:=I.r9 b (by rw[hs];exact z)
   rw[r]at this;cases this
  have ne:∀b u,H b=some u->b∉ex:=fun b u r z=>by
   have:=(hz b z).2
   rw[r]at this;cases this
  refine(I.ax a o q).ie (fun b u hb r=>?_) (fun b r=>r) (fun b xs r=>r)
  rcases hb with rfl|hb
  ·exact F.keep b u r (ne _ _ q) (nf _ _ q)
  ·exact F.keep b u r (ne _ _ hb) (nf _ _ hb)
def ye(X:Cx)(E:XK):Prop:=∀(pins:List (Addr×Obj))(σ:St)(H:Hp)(s:Shared)(ea:Addr)(cls:Value)(dx:Addr),Inv X pins σ H s->kL s.heap ea cls (some dx) .none->X.bX.heap.objs.size<=ea->H ea=none->E cls (some dx) H->X.xe (.ref ea) s
end
section
variable {P:Program}{w:World}{K:PySem.W.Frag}{mg:Str->Option Value}{base:Heap}{N:List Str}{qual:Str}{scope:Scope}{f:Addr}{cd:Value}{A:Around}{outer:List Env}{s:Shared}{H:Hp}{E:XK}
theorem eP:ye (fA (a8 P w) P w K mg base N qual scope f cd A outer s H E) E:=by
 intro pins σ H1 s1 ea cls dx I he hz hn hE
 have hst:=I.stack
 have hfr:=I.ok.frames
 show wpAny _ _ (leaving _ (.ref ea)) _ _ _
 unfold leaving
 refine wpAny_bind (Fw hfr hst rfl he fun h' T F a b c d=>?_)
 obtain⟨u,ok⟩:=I.zO (ex:=[ea]) rfl rfl rfl rfl F (fun b hb=>by rw[List.mem_singleton.mp hb];exact⟨hz,hn⟩)
 exact⟨ea,cls,dx,T,H1,rfl,I.os,I.bare,u,ok,b,c,d,hz,Nat.le_trans I.sz a,hn,I.ax.fresh a,hE⟩
theorem au:Passes (a8 P w) (fA (a8 P w) P w K mg base N qual scope f cd A outer s H E) E:=by
 intro pins σ H1 s1 e s2 I hx
 obtain⟨ea,cls,dx,T,H',rfl,os,bare,un,ok,er,re,ne,z1,z2,n1,n2,hE⟩:=hx
 obtain⟨hh,g,d,t,os'⟩:=s2
 obtain rfl:os'=s1.os:=os
 have I2:=I.call (h':=hh) (g':=g) (d':=d) (t':=t) (ch:=[]) un ok bare (fun b z=>absurd z (by simp))
 have hst:=I2.stack
 have hfr:=I2.ok.frames
 show wpAny _ _ (leaving _ (.ref ea)) _ _ _
 unfold leaving
 refine wpAny_bind (CH hfr hst rfl er re ne fun h' T' F a b c d _=>?_)
 have s0:=I.sz
 obtain⟨u,ok2⟩:=I2.zO (ex:=[ea,T]) rfl rfl rfl rfl F (fun b hb=>by
  rcases List.mem_cons.mp hb with rfl|hb
  ·exact⟨Nat.le_trans s0 z1,n1⟩
  ·rw[List.mem_singleton.mp hb];exact⟨Nat.le_trans s0 z2,n2⟩)
 exact⟨ea,cls,dx,T',H',rfl,I2.os,I2.bare,u,ok2,b,c,d,Nat.le_trans s0 z1,Nat.le_trans I2.sz a,n1,I2.ax.fresh a,hE⟩
theorem gW:PassesOwn (model P w) (fA (a8 P w) P w K mg base N qual scope f cd A outer s H E).A (fA (a8 P w) P w K mg base N qual scope f cd A outer s H E).env (fA (a8 P w) P w K mg base N qual scope f cd A outer s H E).xe:=PassesOwn.leaving
end
theorem aG.bq{P:Program}{w:World}{K:PySem.W.Frag}{mg:Str->Option Value}{base:Heap}{x qual:Str}{st:Stmt}{f:Addr}{fd:FuncData}{N ps:List Str}{k:Nat}{sp:Sp}(F:aG K x qual st f fd)(S:aI N ps (aD st))(len:∀vs H Q E,sp vs H Q E->vs.length=ps.length)
  (hbody:∀(cdv:Value)(A:Around)(outer:List Env)(s:Shared)(H:Hp)(vs:List V)(Q:VK)(E:XK),bp k (A.deeper (envOfC qual (aD st) s.heap.objs.size f cdv))->sp vs H Q E->
   ∃t,dI (fA (a8 P w) P w K mg base N qual (aD st) f cdv A outer s H E) (gN st) t/\t {nx:=fun _ H'=>Q .aw H',rt:=Q} (start N vs) H):aB P w K mg base (a8 P w) (k+1) f fd ps sp:=by
 obtain⟨oc,od,kV,doc,pm,an,cdv,ct,osl,rfl,lk,hcd⟩:=F.ex
 exact B3 lk hcd S len fun A outer s H vs Q E hr hsp=>hbody cdv A outer s H vs Q E hr hsp
end L2
end
section
set_option Elab.async false
set_option linter.all false
set_option maxRecDepth 100000
set_option maxHeartbeats 4000000
namespace L2
open PySem PySem.Spec PyProof.Rows
open PySem.W (Looks)
def gF:List Value->Bool
 |[.type a,.type b,.type c]=>a=="Exception"&&b=="BaseException"&&c=="object"
 | .ref _::r=>gF r
 |_=>false
theorem zQ:∀{l:List Value},gF l=true->l=[.type "Exception",.type "BaseException",.type "object"]\/∃c r,l=.ref c::r/\gF r=true
 |[.type a,.type b,.type c],h=>by
  simp only[gF,Bool.and_eq_true,beq_iff_eq]at h
  obtain⟨⟨rfl,rfl⟩,rfl⟩:=h
  exact .inl rfl
 | .ref c::r,h=>.inr ⟨c,r,rfl,by cases r<;>first|exact h|cases h⟩
theorem jw{T:String}{b:Bool}(hb:([.type "Exception",.type "BaseException",.type "object"]:List Value).contains (.type T)=b):∀(l:List Value),gF l=true->l.contains (.type T)=b
 |[],h=>by cases h
 |v::r,h=>by
  rcases zQ h with e|⟨c,r',e,h'⟩
  ·rw[e];exact hb
  ·cases e
   rw[List.contains_cons,jw hb r h']
   rfl
theorem y3(self:Value):∀(l:List Value),gF l=true->refuseLoop self "__setattr__" l=pure ()
 |[],h=>by cases h
 |v::r,h=>by
  rcases zQ h with e|⟨c,r',e,h'⟩
  ·rw[e];exact PySem.F.store_Exception.passes self
  ·cases e
   rw[refuseLoop_ref];exact y3 self r h'
def dX(K:PySem.W.Frag)(C:Addr):Bool:=match K.lookup C with
 |some ⟨.type "type",_,.cls cd,sl⟩=>(match cd.mro,sl.toList with
  | .ref C'::bm,[_,_,_,_,some (.builtin n),_]=>C'==C&&n=="Exception.__new__"&& !cd.hasDel&&cd.hasDict&&gF bm
  |_,_=>false)
 |_=>false
theorem ky{K:PySem.W.Frag}{C:Addr}(e:dX K C=true):∃nm q N bs bm sn sub ab col dd k0 k1 k2 k3 k5,K.lookup C=some (excClassObj nm q C N bs bm true sn sub ab col dd k0 k1 k2 k3 k5 "Exception.__new__")/\gF bm=true:=by
 unfold dX at e
 split at e
 ·rename_i dd cd sl ho
  split at e
  ·rename_i C' bm k0 k1 k2 k3 n k5 hm hs
   simp only[Bool.and_eq_true,beq_iff_eq,Bool.not_eq_true']at e
   obtain⟨⟨⟨⟨rfl,rfl⟩,h1⟩,h2⟩,h3⟩:=e
   obtain⟨nm,bs,mro,ns,qn,hd,sn,sub,ab,col,del⟩:=cd
   dsimp only at hm h1 h2
   subst hm h1 h2
   obtain⟨l⟩:=sl
   dsimp only at hs
   subst hs
   exact⟨nm,qn,ns,bs,bm,sn,sub,ab,col,dd,k0,k1,k2,k3,k5,ho,h3⟩
  ·cases e
 ·cases e
structure gq(K:PySem.W.Frag)(C fI:Addr):Prop where
 is:dX K C=true
 init:PySem.W.findIn K (.ref C) "__init__"=some (some (.ref fI))
 fn:PySem.W.isFn K (.ref fI)=true
 kp:PySem.W.keepIn K (.ref C)=true
 sa:PySem.W.findIn K (.ref C) "__setattr__"=some (some (.builtin "object.__setattr__"))
def cJ(lo:Nat)(a C:Addr)(dx:Option Addr):HO:=.ext fun h=>lo<=a/\∃t,h.get? a=some {cls:=.ref C,dict:=dx,data:=.fields #[.ref t,.none,.none,.none,.bool false,.none]}
def cZ(a:Addr)(fs:List (Str×V)):HO:=.ext fun h=>∃mA,h.Ns1 a mA/\(∀f,cW (fs.lookup f) (mA f))/\PySem.Within mA (fs.map (·.1))
section
variable {P:Program}{w:World}{H:Hp}{h:Heap}{a C:Addr}{dx:Option Addr}{fs:List (Str×V)}
theorem Cd{lo:Nat}{t:Addr}(z:lo<=a)(e:h.get? a=some {cls:=.ref C,dict:=dx,data:=.fields #[.ref t,.none,.none,.none,.bool false,.none]}):cf P w H h a (cJ lo a C dx):=
 ⟨⟨z,t,e⟩,⟨_,e⟩,fun _ _⟨z,t,q⟩k=>⟨z,t,k _ q⟩⟩
theorem wt{mA:Str->Option Value}(e:h.Ns1 a mA)(r:∀f,cW (fs.lookup f) (mA f))(z:PySem.Within mA (fs.map (·.1))):cf P w H h a (cZ a fs):=
 ⟨⟨mA,e,r,z⟩,(by obtain⟨o,_,_,q,_⟩:=e;exact⟨o,q⟩),fun _ _⟨m,q,r⟩k=>⟨m,q.at k,r⟩⟩
theorem yD{lo:Nat}(ok:bz P w H h)(e:H a=some (cJ lo a C dx)):lo<=a/\∃t,h.get? a=some {cls:=.ref C,dict:=dx,data:=.fields #[.ref t,.none,.none,.none,.bool false,.none]}:=(ok a _ e).1
theorem Ax(ok:bz P w H h)(e:H a=some (cZ a fs)):∃mA,h.Ns1 a mA/\(∀f,cW (fs.lookup f) (mA f))/\PySem.Within mA (fs.map (·.1)):=(ok a _ e).1
end
section
variable {prog:Program}{w:World}{A:Around}{E:Value->Shared->Prop}{s:Shared}{K:PySem.W.Frag}{x C:Addr}{f:Str}{v:Value}
theorem D0{ox:Obj}{od:Option Obj}{R:Result->Shared->Prop}{tk:Tok}(X:K.In s.heap)(J:PySem.W.InstAt s.heap x ox C od)(hc:dX K C=true)(hn:PySem.W.findIn K (.ref C) f=some none)
  (h:wpAny (model prog w) A.in1 (Builtin.ObjectAttr.storeInOwnDict (.ref x) (.ref C) (.str f tk) f v false)
   (fun fin s'=>match fin with| .done z=>R (.ok z) s'| .again c'=>c'.quiet=true/\codeAny (model prog w) A c' R s') (fun e s'=>R (.error e) s') s):
  codeAny (model prog w) A (.call (.builtin "object.__setattr__") ⟨[.ref x,.str f tk,v],[]⟩) R s:=by
 obtain⟨nm,q,N,bs,bm,sn,sub,ab,col,dd,k0,k1,k2,k3,k5,ho,ht⟩:=ky hc
 have SF:=PySem.F.store_object
 have hcl:PySem.W.clsIn K C=some {name:=nm,bases:=bs,mro:=.ref C::bm,ns:=N,qualname:=q,hasDict:=true,slotNames:=sn,subclasses:=sub,abstract:=ab,collection:=col,hasDel:=false}:=by
  unfold PySem.W.clsIn;rw[ho]
 have hob:(Value.ref C::bm).contains (.type "object")=true:=by rw[List.contains_cons,jw (b:=true) (by decide +kernel) bm ht];rfl
 have sb:Looks (model prog w) s.heap (isInstance (.ref x) (.type "object")) true:=J.type.andThen (PySem.W.looks_mroIn X (by unfold PySem.W.mroIn;rw[hcl,Option.bind_some,if_neg (by simp),hob]))
 refine codeAny_call_builtin SF.slot.plain SF.entry (@PySem.W.check_slot (model prog w) _ _ s "object.__setattr__" "object" "__setattr__" (.ref x) [.str f tk,v] [] _ SF.kind SF.split sb (SF.args (.ref x) (.str f tk) v) ?_)
 have hm:Looks (model prog w) s.heap (mroOf (.ref C)) (.ref C::bm):=(PySem.W.looks_clsIn X hcl).andThen .now
 rw[PySem.W.osa_eq,refuse_eq];refine wpAny_bind (wpAny_bind (J.type.here (wpAny_bind (hm.here ?_))))
 rw[refuseLoop_ref,y3 _ bm ht];refine wpAny_pure (wpAny_bind (J.type.here (wpAny_bind ((PySem.W.looks_findIn X hn).here ?_))))
 refine wpAny_bind (Looks.here (r:=none) .now ?_)
 exact h
end
section
variable {X:Cx}{pins:List (Addr×Obj)}{σ:St}{H:Hp}{s:Shared}{A:Around}{E:Value->Shared->Prop}{a C fI:Addr}{f:Str}{y:V}{u:Value}{Q:Unit->Shared->Prop}
theorem uc{mA:Str->Option Value}(h:∀n,mA n=none):PySem.Within mA []:=fun n hn=>absurd (h n) hn
theorem K0{lo:Nat}(I:Inv X pins σ H s)(e:H a=some (cJ lo a C none))(c:gq X.K C fI)(n:bw X.K C f)(ry:RelV y u)
  (h:∀(s':Shared)(dx:Addr),H dx=none->dx≠a->Inv X pins σ (upd (upd H dx (cZ dx [(f,y)])) a (cJ lo a C (some dx))) s'->Q () s'):wpAny (model X.prog X.w) A (setAttr (.ref a) f u) Q E s:=by
 obtain⟨zl,t,hx⟩:=yD I.ax e
 have J:PySem.W.InstAt s.heap a _ C none:=⟨hx,rfl,rfl,trivial⟩
 refine PySem.W.set_plain I.bh J c.sa (D0 (s:={s with toks:=s.toks+1}) I.bh J c.is n ?_)
 have xs:a≠s.heap.objs.size:=Nat.ne_of_lt (Heap.lt_size hx)
 have hn0:H s.heap.objs.size=none:=I.ax.fresh (Nat.le_refl _)
 have hx1:(s.heap.push PySem.W.emptyDict).get? a=some {cls:=.ref C,dict:=none,data:=.fields #[.ref t,.none,.none,.none,.bool false,.none]}:=Heap.get?_push_of_some _ hx
 refine wpAny_bind (wpAny_pure (wpAny_bind ?_))
 obtain⟨nm,q,N,bs,bm,sn,sub,ab,col,dd,k0,k1,k2,k3,k5,ho,ht⟩:=ky c.is
 have hcl:PySem.W.clsIn X.K C=some {name:=nm,bases:=bs,mro:=.ref C::bm,ns:=N,qualname:=q,hasDict:=true,slotNames:=sn,subclasses:=sub,abstract:=ab,collection:=col,hasDel:=false}:=by
  unfold PySem.W.clsIn;rw[ho]
 refine wpAny_bind (wpAny_loadPart (s:={s with toks:=s.toks+1}) hx (wpAny_bind (Looks.here (s:={s with toks:=s.toks+1}) (PySem.W.looks_clsIn I.bh hcl) ?_)))
 refine wpAny_bind (wpAny_alloc (wpAny_bind (wpAny_update hx1 ?_)))
 have hgd:((s.heap.push PySem.W.emptyDict).update a fun o=>{o with dict:=some s.heap.objs.size}).get? s.heap.objs.size=some PySem.W.emptyDict:=(Heap.get?_update_ne _ _ _ _ xs.symm).trans (Heap.get?_push_at rfl rfl)
 have hnd:((s.heap.push PySem.W.emptyDict).update a fun o=>{o with dict:=some s.heap.objs.size}).Ns s.heap.objs.size (fun _=>none):=⟨_,#[],_,hgd,rfl,fun e he=>absurd he (by simp),fun _=>rfl⟩
 have hxa:((s.heap.push PySem.W.emptyDict).update a fun o=>{o with dict:=some s.heap.objs.size}).get? a=some {cls:=.ref C,dict:=some s.heap.objs.size,data:=.fields #[.ref t,.none,.none,.none,.bool false,.none]}:=
  Heap.get?_update_self _ hx1 rfl
 refine wpAny_pure (a:=some s.heap.objs.size) ?_
 show wpAny _ _ (Builtin.ObjectAttr.storeInDict s.heap.objs.size (.str f s.toks) f u) _ _ _
 unfold Builtin.ObjectAttr.storeInDict Builtin.ObjectAttr.newKeyGuard
 refine wpAny_bind (wpAny_pure (wpAny_bind (wpAny_nsSet1 (Heap.Ns1.of_empty hnd) fun h' hn' hs=>?_)))
 obtain⟨oD,esD,epD,hoD,hdD,hcD⟩:=hn'.count (PySem.Within.cons f u (uc fun _=>rfl))
 refine wpAny_bind (wpAny_lookBehind hoD (by rw[hdD];exact pastItsLine_dict (Nat.le_trans hcD (by rw[List.length_cons,List.length_nil,sizeLine_eq];omega))) ?_)
 have I1:=I.laid (a:=s.heap.objs.size) (o:=cZ s.heap.objs.size []) (h':=s.heap.push PySem.W.emptyDict) (t':=s.toks) (fun b u q=>Heap.get?_push_of_some _ q) (Nat.le_refl _)
  (wt (mA:=fun _=>none) (Heap.Ns1.of_empty ⟨_,#[],_,Heap.get?_push_size s.heap rfl,rfl,fun e he=>absurd he (by simp),fun _=>rfl⟩) (fun _=>trivial) (uc fun _=>rfl))
 have m1:upd H s.heap.objs.size (cZ s.heap.objs.size []) a=some (cJ lo a C none):=by rw[ao xs];exact e
 have I2:=I1.write (x:=a) (e:=a) (o:=cJ lo a C (some s.heap.objs.size)) (h':=(s.heap.push PySem.W.emptyDict).update a fun o=>{o with dict:=some s.heap.objs.size}) (t':=s.toks)
  (by rw[m1];exact True.intro) (.inl rfl) (fun b u nb q=>(Heap.get?_update_other _ _ (Ne.symm nb)).trans q) ⟨_,hxa⟩ (Cd zl hxa)
 have m2:upd (upd H s.heap.objs.size (cZ s.heap.objs.size [])) a (cJ lo a C (some s.heap.objs.size)) s.heap.objs.size=some (cZ s.heap.objs.size []):=by rw[ao (Ne.symm xs),az]
 have I3:=I2.write (x:=s.heap.objs.size) (e:=s.heap.objs.size) (o:=cZ s.heap.objs.size [(f,y)]) (h':=h') (t':=s.toks+1+1)
  (by rw[m2];exact True.intro) (.inl rfl) (fun b u nb q=>(hs.2 b nb).trans q) (by obtain⟨o,_,_,q,_⟩:=hn';exact⟨o,q⟩)
  (wt hn' (fun g=>by
   show cW (List.lookup g [(f,y)]) (if g=f then some u else none)
   by_cases q:g=f
   ·rw[if_pos q,q]
    simp only[List.lookup,beq_self_eq_true]
    exact ry
   ·rw[if_neg q]
    have:(g==f)=false:=beq_eq_false_iff_ne.mpr q
    simp only[List.lookup,this]
    trivial) (PySem.Within.cons f u (uc fun _=>rfl)))
 have e3:upd (upd (upd H s.heap.objs.size (cZ s.heap.objs.size [])) a (cJ lo a C (some s.heap.objs.size))) s.heap.objs.size (cZ s.heap.objs.size [(f,y)])=
   upd (upd H s.heap.objs.size (cZ s.heap.objs.size [(f,y)])) a (cJ lo a C (some s.heap.objs.size)):=by
  funext b
  by_cases q1:b=s.heap.objs.size
  ·rw[q1,az,ao (Ne.symm xs),az]
  ·rw[ao q1]
   by_cases q2:b=a
   ·rw[q2,az,az]
   ·rw[ao q2,ao q2,ao q1,ao q1]
 rw[e3]at I3
 exact wpAny_pure (h _ s.heap.objs.size hn0 (Ne.symm xs) I3)
theorem Jn{lo:Nat}{dx:Addr}{fs:List (Str×V)}(I:Inv X pins σ H s)(e:H a=some (cJ lo a C (some dx)))(ed:H dx=some (cZ dx fs))(hne:dx≠a)(c:gq X.K C fI)(n:bw X.K C f)(hl:fs.length<1000)(ry:RelV y u)
  (h:∀(s':Shared),Inv X pins σ (upd H dx (cZ dx (cn f y fs))) s'->Q () s'):wpAny (model X.prog X.w) A (setAttr (.ref a) f u) Q E s:=by
 obtain⟨zl,t,hx⟩:=yD I.ax e
 obtain⟨mA,hn,r,wi⟩:=Ax I.ax ed
 obtain⟨od,es,ep,hod,_⟩:=id hn
 have J:PySem.W.InstAt s.heap a _ C (some od):=⟨hx,rfl,rfl,hod⟩
 refine PySem.W.set_plain I.bh J c.sa (D0 (s:={s with toks:=s.toks+1}) I.bh J c.is n ?_)
 refine wpAny_bind (wpAny_pure (wpAny_bind ?_))
 obtain⟨nm,q,N,bs,bm,sn,sub,ab,col,dd,k0,k1,k2,k3,k5,ho,ht⟩:=ky c.is
 have hcl:PySem.W.clsIn X.K C=some {name:=nm,bases:=bs,mro:=.ref C::bm,ns:=N,qualname:=q,hasDict:=true,slotNames:=sn,subclasses:=sub,abstract:=ab,collection:=col,hasDel:=false}:=by
  unfold PySem.W.clsIn;rw[ho]
 refine wpAny_bind (wpAny_loadPart (s:={s with toks:=s.toks+1}) hx (wpAny_bind (Looks.here (s:={s with toks:=s.toks+1}) (PySem.W.looks_clsIn I.bh hcl) ?_)))
 refine wpAny_pure (a:=some dx) ?_
 show wpAny _ _ (Builtin.ObjectAttr.storeInDict dx (.str f s.toks) f u) _ _ _
 unfold Builtin.ObjectAttr.storeInDict Builtin.ObjectAttr.newKeyGuard
 refine wpAny_bind (wpAny_pure (wpAny_bind (wpAny_nsSet1 (s:={s with toks:=s.toks+1}) hn fun h' hn' hs=>?_)))
 obtain⟨oD,esD,epD,hoD,hdD,hcD⟩:=hn'.count (PySem.Within.cons f u wi)
 refine wpAny_bind (wpAny_lookBehind hoD (by rw[hdD];exact pastItsLine_dict (Nat.le_trans hcD (by rw[List.length_cons,List.length_map,sizeLine_eq];omega))) ?_)
 refine wpAny_pure (h _ ?_)
 refine I.write (x:=dx) (e:=dx) (by rw[ed];exact True.intro) (.inl rfl) (fun b u nb q=>(hs.2 b nb).trans q) (by obtain⟨o,_,_,q,_⟩:=hn';exact⟨o,q⟩) (wt hn' (fun g=>?_) fun g hg=>?_)
 ·show cW ((cn f y fs).lookup g) (if g=f then some u else mA g)
  rw[oi]
  by_cases q:g=f
  ·rw[if_pos q,if_pos q];exact ry
  ·rw[if_neg q,if_neg q];exact r g
 ·by_cases q:g=f
  ·rw[q];exact(qd f y fs).1
  ·refine(qd f y fs).2 g (wi g fun z=>hg ?_)
   show(if g=f then some u else mA g)=none
   rw[if_neg q];exact z
end
end L2
end
section
set_option Elab.async false
set_option linter.all false
set_option maxRecDepth 100000
set_option maxHeartbeats 4000000
namespace L2
open PySem PySem.Spec PyProof.Rows
open PySem.W (Looks)
section
variable {X:Cx}{o value:Expr}{f:Str}{pos pos':Pos}{ta tv:TE}
def Km(K:PySem.W.Frag)(ta tv:TE)(f:Str):TS:=fun D σ H=>tv σ H fun y H1=>ta σ H1 fun x H2=>∃lo a C fI,x=.ref a/\H2 a=some (cJ lo a C none)/\gq K C fI/\bw K C f/\
 ∀dx,H2 dx=none->dx≠a->D.nx σ (upd (upd H2 dx (cZ dx [(f,y)])) a (cJ lo a C (some dx)))
theorem Gk(ha:PE X o ta)(hv:PE X value tv)(hs:swapsWith value (some (.Attribute o f pos')) pos.line X.env=pure false):PS X (.Assign [.Attribute o f pos'] value pos) (Km X.K ta tv f):=by
 intro pins s σ H D I h
 refine plainObj_wpAny_Assign_Attribute (aJ (hv pins s σ H _ I h) fun u s1⟨y,H1,I1,ry,q⟩=>aJ (ha pins s1 σ H1 _ I1 q) fun ov s2⟨x,H2,I2,rx,lo,a,C,fI,ex,ea,c,n,q2⟩=>?_) hs
 subst ex
 obtain rfl:ov=Value.ref a:=rx
 exact K0 I2 ea c n ry fun s3 dx hn ne I3=>⟨σ,_,I3,q2 dx hn ne⟩
def FV(K:PySem.W.Frag)(ta tv:TE)(f:Str):TS:=fun D σ H=>tv σ H fun y H1=>ta σ H1 fun x H2=>∃lo a C fI dx fs,x=.ref a/\H2 a=some (cJ lo a C (some dx))/\H2 dx=some (cZ dx fs)/\dx≠a/\gq K C fI/\bw K C f/\
 fs.length<1000/\D.nx σ (upd H2 dx (cZ dx (cn f y fs)))
theorem FG(ha:PE X o ta)(hv:PE X value tv)(hs:swapsWith value (some (.Attribute o f pos')) pos.line X.env=pure false):PS X (.Assign [.Attribute o f pos'] value pos) (FV X.K ta tv f):=by
 intro pins s σ H D I h
 refine plainObj_wpAny_Assign_Attribute (aJ (hv pins s σ H _ I h) fun u s1⟨y,H1,I1,ry,q⟩=>aJ (ha pins s1 σ H1 _ I1 q) fun ov s2⟨x,H2,I2,rx,lo,a,C,fI,dx,fs,ex,ea,ed,ne,c,n,l,q2⟩=>?_) hs
 subst ex
 obtain rfl:ov=Value.ref a:=rx
 exact Jn I2 ea ed ne c n l ry fun s3 I3=>⟨σ,_,I3,q2⟩
end
structure vC(K:PySem.W.Frag)(C:Addr)(m:Str)(f:Addr):Prop where
 rd:PySem.W.readsIn K C (.type "type")=true
 sp:PySem.W.specialIn K (.ref C) "__getattribute__"=some (some (.builtin "type.__getattribute__"))
 at_:PySem.W.findCls K (.ref C) (.type "type") m=some (.val (.ref f))
 kp:PySem.W.keepIn K (.ref f)=true
section
variable {X:Cx}{CX:dz}{k:Nat}{f C:Addr}{fd:FuncData}{ps:List Str}{sp:Sp}{dvs:List V}{ds:List Value}{E:XK}{x m:Str}{p pos apos:Pos}{e:Expr}{es:List Expr}{t:TA}
theorem jU{pl:Sem Bool}(hg:Gl X x)(hm:X.mg x=some (.ref C))(c:vC X.K C m f)(F:aB X.prog X.w X.K X.mg X.base CX k f fd ps sp)(hr:bp k X.A)(hb:Binds X.K fd ps ds)(hd:aF dvs ds)(hx:Passes CX X E)(ha:PA X (e::es) t)
  (hdb:(x==("__debug__":Str))=false:=by decide) (hst:starEach (e::es) X.env=(false,eval e X.env)::starEach es X.env:=by rfl) (hpl:(backTo pos (starEach es X.env)).any (·.1)=false:=by rfl)
  (ht:eval (.Call (.Attribute (.Name x p) m apos) (e::es) [] pos) X.env=(do
   let ov <-eval (.Name x p) X.env
   standAt apos.atName
   let(f,first) <-holding [ov] (getMethod ov m pl)
   callWith pos f first (backTo pos (starEach (e::es) X.env)) (backToKw pos (keywordEach [] X.env))):=by rfl):
  PE X (.Call (.Attribute (.Name x p) m apos) (e::es) [] pos) (qp sp dvs E t):=by
 intro pins s σ H Q I h
 refine PySem.W.methodCall_KW (pl:=pl) (hU I hg hm ?_ hdb) ht
 refine PySem.W.method_cls I.bh c.sp (PySem.W.cls_value I.bh c.rd c.at_ rfl ?_)
 have I1:=I.tok (s.toks+1)
 refine PySem.W.callWith_K (first:=[]) (h₀:=X.base) I.ok.mod.iL c.kp (aJ (ha pos pins _ σ H _ I1 h) fun us s1⟨vs,H1,I2,r,q⟩=>⟨I2.bh,?_⟩) hst hpl
 exact tK F hr hb hd hx I2 r q
end
def Hk(lo:Nat)(C:Addr)(sp:Sp)(t:TA):TE:=fun σ H Q=>t σ H fun vs H1=>vs.length<=sizeLine/\∀x,H1 x=none->sp (.ref x::vs) (upd H1 x (cJ lo x C none)) (fun v H2=>v=.aw/\Q (.ref x) H2) E0
section
variable {X:Cx}{k:Nat}{f C:Addr}{fd:FuncData}{ps:List Str}{sp:Sp}{x m:Str}{p pos apos:Pos}{e:Expr}{es:List Expr}{t:TA}
theorem IF{pins:List (Addr×Obj)}{σ:St}{H:Hp}{s:Shared}{Q:VK}{us:List Value}{vs:List V}(M:gq X.K C f)(F:aB X.prog X.w X.K X.mg X.base bx k f fd ps sp)(hr:bp (k+1) X.A)(hb:Binds X.K fd ps [])
  (I:Inv X pins σ H s) (r:aF vs us) (hl:vs.length<=sizeLine) (h:∀x,H x=none->sp (.ref x::vs) (upd H x (cJ X.bX.heap.objs.size x C none)) (fun v H2=>v=.aw/\Q (.ref x) H2) E0):
  wpAny (model X.prog X.w) X.A (call (.ref C) us) (EP X pins σ Q) X.xe s:=by
 obtain⟨nm,q,N,bs,bm,sn,sub,ab,col,dd,k0,k1,k2,k3,k5,ho,ht⟩:=ky M.is
 obtain⟨hh,g,d,tk,os⟩:=s
 refine x_call (I.bh _ _ ho) (jw (b:=true) (by decide +kernel) bm ht) (jw (b:=false) (by decide +kernel) bm ht) (jw (b:=false) (by decide +kernel) bm ht) (by rw[<-r.length];exact hl)
  (PySem.W.looks_findIn I.bh M.init) (fun self=>PySem.W.bind_fn I.bh self (beq_iff_eq.mp M.fn)) fun h' ea hm hz=>?_
 have hn:H ea=none:=I.ax.fresh hz
 obtain⟨tt,ht1,_,_⟩:=hm.there
 have I2:=I.laid (a:=ea) (o:=cJ X.bX.heap.objs.size ea C none) (h':=h') (t':=tk) (fun b u q=>hm.keeps b u q) hz (Cd (Nat.le_trans I.sz hz) ht1)
 have hq:=h ea hn
 have r2:aF (V.ref ea::vs) (Value.ref ea::us):=.cons rfl r
 have hlen:(Value.ref ea::us++[]).length=ps.length:=by
  have e:=r2.length
  rw[F.len _ _ _ _ hq]at e
  rw[List.append_nil]
  exact e.symm
 have bb:=hb _ (Value.ref ea::us) I2.bh hlen
 rw[List.append_nil]at bb
 refine wpAny_call (codeAny_mono (F.run _ X.stack _ _ ⟨Value.ref ea::us,[]⟩ (Value.ref ea::us) _ _ E0 (hr.make C us []) (I2.rX.make C us []) bb r2 hq) fun r s' hq'=>?_)
 cases r with
 |error e=>exact False.elim hq'
 |ok fl=>
  cases fl with
  |ret u=>
   obtain⟨v,H',I3,rv,ev,q3⟩:=I2.after hq'
   subst ev
   exact⟨rv,⟨V.ref ea,H',I3,rfl,q3⟩⟩
  |next=>exact False.elim hq'
  |brk=>exact False.elim hq'
  |cont=>exact False.elim hq'
theorem Jh(M:gq X.K C f)(F:aB X.prog X.w X.K X.mg X.base bx k f fd ps sp)(hr:bp (k+1) X.A)(hg:Gl X x)(hm:X.mg x=some (.ref C))(hb:Binds X.K fd ps [])(ha:PA X (e::es) t)
  (hdb:(x==("__debug__":Str))=false:=by decide) (he:starEach (e::es) X.env=(false,eval e X.env)::starEach es X.env:=by rfl) (hpl:(backTo pos (starEach es X.env)).any (·.1)=false:=by rfl):
  PE X (.Call (.Name x p) (e::es) [] pos) (Hk X.bX.heap.objs.size C sp t):=by
 intro pins s σ H Q I h
 refine wpAny_Call_Name_kw (hU I hg hm ?_ hdb)
 refine PySem.W.callWith_K (h₀:=X.base) I.ok.mod.iL M.kp (aJ (ha pos pins s σ H _ I h) fun us s1⟨vs,H1,I1,r,hl,q⟩=>⟨I1.bh,?_⟩) he hpl
 exact IF M F hr hb I1 r hl q
end
def gx(H:Hp)(a:Addr):Hp:=fun b=>if b=a then none else H b
theorem Dy{H:Hp}{a:Addr}:gx H a a=none:=by unfold gx;rw[if_pos rfl]
theorem jM{H:Hp}{a b:Addr}(h:b≠a):gx H a b=H b:=by unfold gx;rw[if_neg h]
theorem Inv.forget{lo:Nat}{X:Cx}{pins:List (Addr×Obj)}{σ:St}{H:Hp}{s:Shared}{a C:Addr}{dx:Option Addr}(I:Inv X pins σ H s)(e:H a=some (cJ lo a C dx)):Inv X pins σ (gx H a) s:=by
 have nn:∀b,H b=none->gx H a b=none:=fun b h=>by
  unfold gx;split
  ·rfl
  ·exact h
 have B:=I.base
 have nx:∀b o,H b=some o->o≠cJ lo a C dx->b≠a:=fun b o h hn z=>by rw[z,e]at h;exact hn (Option.some.inj h).symm
 refine⟨I.ok,I.os,I.bare,⟨B.keep,B.slot,fun b o q n hx=>nn b (B.free b o q n hx),B.there,fun b xs q=>?_,fun b o u q=>?_,fun b ps q=>?_⟩,I.loc,I.cell,nn _ I.free,fun x c q=>nn _ (I.dA x c q),fun p hp=>?_,fun b o q=>?_,I.len⟩
 ·have h:=B.eF b xs q
  rw[jM (nx b _ h (by intro z;cases z))];exact h
 ·have h:=B.d7 b o u q
  rw[jM (nx b _ h (by intro z;cases z))];exact h
 ·obtain⟨more,h⟩:=B.eI b ps q
  exact⟨more,by rw[jM (nx b _ h (by intro z;cases z))];exact h⟩
 ·obtain⟨p1,p2,p3,p4,p5⟩:=I.pin p hp
  exact⟨p1,nn _ p2,p3,p4,p5⟩
 ·have hb:b≠a:=fun z=>by rw[z,Dy]at q;cases q
  rw[jM hb]at q
  refine(I.ax b o q).ie (fun c v _ r=>r) (fun c r=>?_) (fun c xs r=>?_)
  ·rw[jM (nx c _ r (by intro z;cases z))];exact r
  ·rw[jM (nx c _ r (by intro z;cases z))];exact r
section
variable {M:Model}{A:Around}{E:Value->Shared->Prop}{env:Env}{nm q:Str}{C N:Addr}{bs bm:List Value}{hdct:Bool}{sn:List Str}{sub:List Value}{ab:Bool}{col:Option Bool}{dd:Option Addr}{k0 k1 k2 k3 k5:Option Value}{newId:String}
theorem x_raise{s:Shared}{x:Sem Value}{Q:Flow->Shared->Prop}(hbase:bm.contains (.type "BaseException")=true)(hh:A.handled=none)
  (h:wpAny M A x (fun v s1=>∃e t dx,v=.ref e/\s1.heap.get? C=some (excClassObj nm q C N bs bm hdct sn sub ab col dd k0 k1 k2 k3 k5 newId)/\
   s1.heap.get? e=some {cls:=.ref C,dict:=some dx,data:=.fields #[.ref t,.none,.none,.none,.bool false,.none]}/\E (.ref e) s1) E s):
  wpAny M A (raiseStmt env (some x) none) Q E s:=by
 have hcB:(Value.ref C::bm).contains (.type "BaseException")=true:=by rw[List.contains_cons,hbase,Bool.or_true]
 unfold raiseStmt
 refine wpAny_bind (wpAny_mono h (fun v s1 h1=>?_) fun _ _ x=>x)
 obtain⟨e,t,dx,rfl,hC,he,hE⟩:=h1
 obtain⟨hp,g,d,tk,os⟩:=s1
 repeat (first|with_reducible refine wpAny_loadPart_at he ?_|with_reducible refine wpAny_loadPart_at hC ?_|(with_reducible refine wpAny_isSubtype_exc hC ?_;rw[hcB])|wp_step)
 exact wpAny_raiseNew_none hh hE
end
section
variable {X:Cx}{E:XK}{e:Expr}{te:TE}{pos:Pos}
def Kc(lo:Nat)(K:PySem.W.Frag)(C:Addr)(E:XK)(te:TE):TS:=fun D σ H=>te σ H fun x H1=>∃a fI dx,x=.ref a/\H1 a=some (cJ lo a C (some dx))/\gq K C fI/\E (.ref C) (some dx) (gx H1 a)
theorem MP{C:Addr}(hc:X.calm=true)(hx:ye X E)(he:PE X e te)(hk:dX X.K C=true):PS X (.Raise (some e) none pos) (Kc X.bX.heap.objs.size X.K C E te):=by
 intro pins s σ H D I h
 obtain⟨nm,q,N,bs,bm,sn,sub,ab,col,dd,k0,k1,k2,k3,k5,ho,ht⟩:=ky hk
 rw[arm_exec_Raise]
 show wpAny _ _ (do standAt pos;raiseStmt X.env (some (do let v <-eval e X.env;standAt pos;pure v)) none) _ _ _
 refine wpAny_bind (wpAny_standAt (x_raise (C:=C) (nm:=nm) (q:=q) (N:=N) (bs:=bs) (bm:=bm) (hdct:=true) (sn:=sn) (sub:=sub) (ab:=ab) (col:=col) (dd:=dd) (k0:=k0) (k1:=k1) (k2:=k2) (k3:=k3) (k5:=k5) (newId:="Exception.__new__")
  (jw (b:=true) (by decide +kernel) bm ht) (I.ok.hd hc) (wpAny_bind (aJ (he pins s σ H _ I h) fun u s1⟨x,H1,I1,rx,a,fI,dx,ex,ea,c,hE⟩=>wpAny_bind (wpAny_standAt (wpAny_pure ?_))))))
 subst ex
 obtain rfl:u=Value.ref a:=rx
 obtain⟨zl,t,hx1⟩:=yD I1.ax ea
 refine⟨a,t,dx,rfl,I1.bh _ _ ho,hx1,?_⟩
 refine hx pins σ (gx H1 a) s1 a (.ref C) dx (I1.forget ea) ⟨_,_,hx1,rfl,rfl,rfl,rfl⟩ zl Dy hE
end
end L2
end
section
set_option Elab.async false
set_option linter.all false
set_option maxRecDepth 100000
set_option maxHeartbeats 4000000
namespace L2
open PySem PySem.Spec PyProof.Rows
open PySem.W (Looks)
structure o1(K:PySem.W.Frag)(C:Addr):Prop where
 is:dX K C=true
 ga:PySem.W.findIn K (.ref C) "__getattribute__"=some (some (.builtin "BaseException.__getattribute__"))
 gh:PySem.W.findIn K (.ref C) "__getattr__"=some none
section
variable {prog:Program}{w:World}{A:Around}{E:Value->Shared->Prop}{s:Shared}{K:PySem.W.Frag}{x C:Addr}{ox od:Obj}{f:Str}{v:Value}{expr:Bool}{Q:Value->Shared->Prop}
theorem Lr(X:K.In s.heap)(c:o1 K C)(J:PySem.W.InstAt s.heap x ox C (some od))(hn:PySem.W.findIn K (.ref C) f=some none)(hl:PySem.W.lookIn f od=some (some v))(hv:PySem.W.handedIn v=true)
  (h:Q v {s with toks:=s.toks+1}):wpAny (model prog w) A (getAttr (.ref x) f expr) Q E s:=by
 obtain⟨nm,q,N,bs,bm,sn,sub,ab,col,dd,k0,k1,k2,k3,k5,ho,ht⟩:=ky c.is
 have hcl:PySem.W.clsIn K C=some {name:=nm,bases:=bs,mro:=.ref C::bm,ns:=N,qualname:=q,hasDict:=true,slotNames:=sn,subclasses:=sub,abstract:=ab,collection:=col,hasDel:=false}:=by
  unfold PySem.W.clsIn;rw[ho]
 have hB:(Value.ref C::bm).contains (.type "BaseException")=true:=by rw[List.contains_cons,jw (b:=true) (by decide +kernel) bm ht];rfl
 have FB:=PySem.F.attrBase_Exception
 have hfo:PySem.W.findObj K C (some od) f=some (.value v):=PySem.W.findObj_own (by unfold PySem.W.hasDictIn;rw[hcl];rfl) hn rfl hl
 obtain⟨hh,g,d,t,os⟩:=s
 have L0:=J.type (M:=model prog w)
 have L1:=PySem.W.looks_findIn (M:=model prog w) X c.ga
 have L2:=PySem.W.looks_findIn (M:=model prog w) X c.gh
 have L3:=PySem.W.looks_find (M:=model prog w) X J hfo
 have L4:Looks (model prog w) hh (isInstance (.ref x) (.type "BaseException")) true:=L0.andThen (PySem.W.looks_mroIn X (by unfold PySem.W.mroIn;rw[hcl,Option.bind_some,if_neg (by simp),hB]))
 unfold getAttr getAttrBy
 refine wpAny_bind (wpAny_mkText (wpAny_holding (wpAny_bind (L0.at (wpAny_bind (L1.at ?_))))))
 dsimp only
 rw[show(onTheHeap (Value.ref C)&&Value.builtin "BaseException.__getattribute__"==Value.builtin "object.__getattribute__")=false from by rw[show(Value.builtin "BaseException.__getattribute__"==Value.builtin "object.__getattribute__")=false from by decide +kernel,Bool.and_false],if_neg (by decide)]
 have hk:Looks (model prog w) hh (hookBefore (.ref C)) none:=L2
 refine wpAny_bind (hk.at (wpAny_bind (wpAny_attempt (wpAny_holding ?_))))
 unfold callGetattribute
 rw[show(expr&&onTheHeap (Value.builtin "BaseException.__getattribute__"))=false from Bool.and_false _,if_neg (by decide)]
 unfold boundAndCalled
 rw[FB.ga.bind]
 refine wpAny_bind (wpAny_pure ?_)
 show wpAny _ _ (call (.builtin "BaseException.__getattribute__") [.ref x,.str f t]) _ _ _
 refine wpAny_call (codeAny_call_builtin FB.ga.plain PySem.F.entry_bexc_ga (@PySem.W.check_slot (model prog w) _ _ _ "BaseException.__getattribute__" "BaseException" "__getattribute__" (.ref x) [.str f t] [] _ (by decide +kernel) (by decide +kernel) L4 (PySem.F.args_bexc_ga _ _) ?_))
 refine wpAny_bind (wpAny_pure (a:=(Value.ref x,[Value.str f t])) ?_)
 show wpAny _ _ (typeOf (.ref x)>>=fun tp=>Builtin.ObjectAttr.find (.ref x) tp f>>=_) _ _ _
 refine wpAny_bind (L0.at (wpAny_bind (L3.at ?_)))
 refine wpAny_pure ?_
 show wpAny _ _ (handedOut v) _ _ _
 rw[PySem.W.handedOut_of hv];exact wpAny_pure h
end
section
variable {X:Cx}{ta:TE}{f:Str}{e:Expr}{pos:Pos}
def Fv(X:Cx)(ta:TE)(f:Str):TE:=fun σ H Q=>ta σ H fun x H1=>∃(ea:Addr)(oe:Obj)(C d:Addr)(fs:List (Str×V))(v:V)(vs:Array Value),x=.ref ea/\(ea,oe)∈X.pn/\oe.cls=.ref C/\oe.dict=some d/\oe.data=.fields vs/\H1 d=some (cZ d fs)/\
 o1 X.K C/\bw X.K C f/\fs.lookup f=some v/\Q v H1
theorem zP(he:PE X e ta)(hb:attributeBase e f X.env (eval e X.env)=eval e X.env):PE X (.Attribute e f pos) (Fv X ta f):=by
 intro pins s σ H Q I h
 refine CJ hb (aJ (he pins s σ H _ I h) fun u s1⟨x,H1,I1,rx,ea,oe,C,d,fs,v,vs,ex,hp,hc,hd,hv,ed,c,n,l,q⟩=>?_)
 subst ex
 obtain rfl:u=Value.ref ea:=rx
 have pe:=(I1.pin (ea,oe) (List.mem_append_left _ hp)).1
 obtain⟨mA,hn,r,wi⟩:=Ax I1.ax ed
 obtain⟨od,hod,hlk⟩:=Dx hn
 have J:PySem.W.InstAt s1.heap ea oe C (some od):=⟨pe,hc,by unfold PySem.W.notCls;rw[hv],by rw[hd];exact hod⟩
 have rl:=r f
 rw[l]at rl
 obtain⟨y,ey,ry⟩:=rl.some_of
 refine Lr I1.bh c J n (by rw[hlk,ey]) (Cs ry) ?_
 exact⟨v,H1,I1.tok _,ry,q⟩
end
end L2
end
section
set_option Elab.async false
set_option linter.all false
set_option maxRecDepth 100000
set_option maxHeartbeats 4000000
namespace L2
open PySem PySem.Spec PyProof.Rows
open PySem.W (Looks)
section
variable {M:Model}{A:Around}{E:Value->Shared->Prop}{h:Heap}{g:Array GenState}{d:Drawn}{t:Nat}{os:OsState}{e C F:Addr}{oe:Obj}{Q:Bool->Shared->Prop}
theorem LD{K:PySem.W.Frag}(X:K.In h)(hC:dX K C=true)(hF:dX K F=true)(hs:PySem.W.mroIn K C (.ref F)=some true)(he:h.get? e=some oe)(hcls:oe.cls=.ref C)
  (hq:Q true ⟨h,g,d,t,os⟩):wpAny M A (excMatches (.ref e) (.ref F)) Q E ⟨h,g,d,t,os⟩:=by
 obtain⟨nm,q,N,bs,bm,sn,sub,ab,col,dd,k0,k1,k2,k3,k5,ho,ht⟩:=ky hF
 have oF:=X _ _ ho
 have cB:(Value.ref F::bm).contains (.type "BaseException")=true:=by rw[List.contains_cons,jw (b:=true) (by decide +kernel) bm ht];rfl
 have L1:Looks M h (isSubtype (.ref C) (.ref F)) true:=PySem.W.looks_mroIn X hs
 have f:=tc_notTuple
 unfold excMatches
 repeat (first|(with_reducible refine wpAny_loadPart_at he ?_;rw[hcls])|with_reducible refine wpAny_loadPart_at oF ?_|(with_reducible refine wpAny_isSubtype_exc oF ?_;rw[cB])|(with_reducible refine L1.at ?_)|wp_step)
 exact hq
end
section
variable {X:Cx}{pins:List (Addr×Obj)}{σ:St}{H:Hp}{s:Shared}
def blind(X:Cx):St:=List.replicate X.N.length none
theorem De{i:Nat}{v:V}(h:(blind X)[i]? =some (some v)):False:=by
 unfold blind at h
 rw[List.getElem?_replicate]at h
 split at h<;>cases h
theorem Inv.E4(I:Inv X pins σ H s):Inv X pins (blind X) H s:=I.weak (by unfold blind;rw[List.length_replicate,I.len]) fun i v e=>(De e).elim
theorem Inv.FZ{h':Heap}{m':Str->Option Value}{t':Nat}(I:Inv X pins σ H s)(hn:h'.Ns X.env.locals m')(hs:Heap.SameBut X.env.locals s.heap h'):Inv X pins (blind X) H {s with heap:=h',toks:=t'}:=by
 have B:=I.base
 have kp:∀b o,b≠X.env.locals->s.heap.get? b=some o->h'.get? b=some o:=fun b o nb q=>(hs.2 b nb).trans q
 have nl:∀b o,X.bX.heap.get? b=some o->b≠X.env.locals:=fun b o q=>Nat.ne_of_lt (Nat.lt_of_lt_of_le (Heap.lt_size q) I.ok.above)
 refine⟨I.ok,I.os,I.bare,⟨fun b o q n nf nx=>kp b o (nl b o q) (B.keep b o q n nf nx),fun b o q n nf nx=>?_,B.free,fun b o q nx=>?_,B.eF,B.d7,B.eI⟩,⟨m',hn,fun i x v _ e _=>(De e).elim⟩,fun x c e=>?_,I.free,I.dA,fun p hp=>?_,fun b o q=>?_,
  by unfold blind;rw[List.length_replicate]⟩
 ·obtain⟨sl,q'⟩:=B.slot b o q n nf nx
  exact⟨sl,kp b _ (nl b o q) q'⟩
 ·obtain⟨o',q'⟩:=B.there b o q nx
  exact⟨o',kp b _ (nl b o q) q'⟩
 ·obtain⟨v,o,ho,hd⟩:=I.cell x c e
  exact⟨v,o,kp c o (I.ju x c e) ho,hd⟩
 ·obtain⟨p1,p2,p3,p4,p5⟩:=I.pin p hp
  exact⟨kp p.1 p.2 p3 p1,p2,p3,p4,p5⟩
 ·have nb:∀c u,H c=some u->c≠X.env.locals:=fun c u r z=>by rw[z,I.free]at r;cases r
  refine(I.ax b o q).ie (fun c u hc r=>?_) (fun _ r=>r) fun _ _ r=>r
  rcases hc with rfl|hc
  ·exact kp c u (nb c _ q) r
  ·exact kp c u (nb c _ hc) r
end
abbrev Cx.tr(X:Cx)(E:Value->Shared->Prop)(pn:List (Addr×Obj)):Cx:={X with xe:=E,pn:=pn}
abbrev Cx.fQ(X:Cx)(ea:Addr)(pn:List (Addr×Obj)):Cx:={X with A:=X.A.mark (some (.ref ea)),calm:=false,pn:=pn,xe:=fun _ _=>False}
section
variable {X:Cx}{pins pins':List (Addr×Obj)}{σ:St}{H:Hp}{s:Shared}{E:Value->Shared->Prop}{pn:List (Addr×Obj)}
theorem Cx.Ok.tr(ok:X.Ok):(X.tr E pn).Ok:=⟨ok.mod,ok.kind,ok.glob,ok.blt,ok.above,ok.inj,ok.has,ok.ia,ok.hd,ok.frames,ok.iE,ok.js,ok.bs,ok.dR,ok.ic,ok.iO,ok.dq,ok.fB⟩
theorem Cx.Ok.kM(ok:(X.tr E pn).Ok):X.Ok:=⟨ok.mod,ok.kind,ok.glob,ok.blt,ok.above,ok.inj,ok.has,ok.ia,ok.hd,ok.frames,ok.iE,ok.js,ok.bs,ok.dR,ok.ic,ok.iO,ok.dq,ok.fB⟩
theorem Cx.Ok.fQ{ea:Addr}(ok:X.Ok):(X.fQ ea pn).Ok:=⟨ok.mod,ok.kind,ok.glob,ok.blt,ok.above,ok.inj,ok.has,ok.ia,(fun z=>by cases z),ok.frames,ok.iE,ok.js,ok.bs,ok.dR,ok.ic,ok.iO,ok.dq,ok.fB⟩
theorem Inv.tr(I:Inv X pins σ H s)(h:∀p∈pn++pins',p∈X.pn++pins):Inv (X.tr E pn) pins' σ H s:=⟨I.ok.tr,I.os,I.bare,I.base,I.loc,I.cell,I.free,I.dA,fun p hp=>I.pin p (h p hp),I.ax,I.len⟩
theorem Inv.kM(I:Inv (X.tr E pn) pins σ H s)(h:∀p∈X.pn++pins',p∈pn++pins):Inv X pins' σ H s:=⟨I.ok.kM,I.os,I.bare,I.base,I.loc,I.cell,I.free,I.dA,fun p hp=>I.pin p (h p hp),I.ax,I.len⟩
theorem Inv.fQ{ea:Addr}(I:Inv X pins σ H s)(h:∀p∈pn++pins',s.heap.get? p.1=some p.2/\H p.1=none/\p.1≠X.env.locals/\p.1∉X.fs/\∀v,p.2.data≠ .cell v):Inv (X.fQ ea pn) pins' σ H s:=
 ⟨I.ok.fQ,I.os,I.bare,I.base,I.loc,I.cell,I.free,I.dA,h,I.ax,I.len⟩
theorem Inv.Mi{ea:Addr}(ok:X.Ok)(I:Inv (X.fQ ea pn) pins σ H s)(h:∀p∈X.pn++pins',p∈pn++pins):Inv X pins' σ H s:=
 ⟨ok,I.os,I.bare,I.base,I.loc,I.cell,I.free,I.dA,fun p hp=>I.pin p (h p hp),I.ax,I.len⟩
end
section
variable {X:Cx}{F:Addr}{x n:Str}{i:Nat}{body suite:List Stmt}{b0:Stmt}{np hpos pos:Pos}{tb:XK->TS}{th:Addr->List (Addr×Obj)->TS}
def zI(X:Cx)(F:Addr)(i:Nat)(th:Addr->List (Addr×Obj)->TS)(D:Ends):XK:=fun cls dx H'=>∃C d,cls=.ref C/\dx=some d/\dX X.K C=true/\PySem.W.mroIn X.K C (.ref F)=some true/\
 ∀(ea:Addr)(oe:Obj)(vs:Array Value)(pn:List (Addr×Obj)),(ea,oe)∈pn->oe.cls=.ref C->oe.dict=some d->oe.data=.fields vs->
  th ea pn {nx:=fun _ H2=>D.nx (blind X) H2,rt:=D.rt} ((blind X).set i (some (.ref ea))) H'
def Hw(X:Cx)(F:Addr)(i:Nat)(tb:XK->TS)(th:Addr->List (Addr×Obj)->TS):TS:=fun D σ H=>tb (zI X F i th D) D σ H
theorem Hq(hN:X.N.Nodup)(hi:X.N[i]? =some n)(hl:X.env.scope.names.lookup n=some .local)(hg:Gl X x)(hm:X.mg x=some (.ref F))(hF:dX X.K F=true)(hst:X.stack=X.env::X.outer)(hfr:X.env.frame=some X.env.locals)(hex:X.ex=[])
  (hb:∀(E:Value->Shared->Prop)(pn:List (Addr×Obj))(Ec:XK),Passes (a8 X.prog X.w) (X.tr E pn) Ec->dI (X.tr E pn) body (tb Ec)) (hs:∀(ea:Addr)(pn:List (Addr×Obj)),dI (X.fQ ea pn) (b0::suite) (th ea pn))
  (hd:(x==("__debug__":Str))=false:=by decide) (hfn:X.fn n=true:=by rfl):
  PS X (.Try body [.ExceptHandler (some (.Name x np)) (some n) (b0::suite) hpos] [] [] pos) (Hw X F i tb th):=by
 intro pins s σ H D I h
 refine wpAny_Try_except ?_
 generalize hE:(fun e s1=>wpAny (model X.prog X.w) X.A (noteFrame e X.env) (fun _ s2=>wpAny (model X.prog X.w) X.A (setFlight e none) (fun _ s3=>wpAny (model X.prog X.w) X.A
  (handleBy e X.env [.ExceptHandler (some (.Name x np)) (some n) (b0::suite) hpos]) (SP X pins D) X.xe s3) X.xe s2) X.xe s1:Value->Shared->Prop)=E1
 have I':Inv (X.tr E1 (X.pn++pins)) [] σ H s:=I.tr (by simp)
 have hp:Passes (a8 X.prog X.w) (X.tr E1 (X.pn++pins)) (zI X F i th D):=by
  intro pins1 σ1 H1 s1 e s2 J hx
  obtain⟨ea,cls,dx,T,H',rfl,os,bare,un,ok,er,re,ne,z1,z2,n1,n2,C,d0,rfl,hdx,hC,hsub,hth⟩:=hx
  cases hdx
  obtain⟨hh,g,d,t,os'⟩:=s2
  obtain rfl:os'=s1.os:=os
  have I2:=J.call (h':=hh) (g':=g) (d':=d) (t':=t) (ch:=[]) un ok bare (fun b z=>absurd z (by simp))
  show E1 (.ref ea) _
  rw[<-hE]
  have hst2:=I2.stack
  have hfr2:=I2.ok.frames
  have e1:(X.tr E1 (X.pn++pins)).stack=X.env::X.outer:=hst
  rw[e1]at hst2 hfr2
  refine CH hfr2 hst2 hfr er re ne fun h' T' Fe a b c dn oldT=>?_
  have s0:X.bX.heap.objs.size<=s1.heap.objs.size:=J.sz
  have lt:∀b o,s1.heap.get? b=some o->b≠ea/\b≠T:=fun b o q=>⟨Nat.ne_of_lt (Nat.lt_of_lt_of_le (Heap.lt_size q) z1),Nat.ne_of_lt (Nat.lt_of_lt_of_le (Heap.lt_size q) z2)⟩
  have chk:∀b,b=ea\/b=T->(b∈X.ex\/X.bX.heap.objs.size<=b)/\b≠X.env.locals/\(∀x c,X.env.cells.lookup x=some c->c≠b)/\∀p∈(X.pn++pins)++pins1,p.1≠b:=fun b hb=>by
   have zb:s1.heap.objs.size<=b:=by
    rcases hb with rfl|rfl
    ·exact z1
    ·exact z2
   refine⟨.inr (Nat.le_trans s0 zb),Ne.symm (Nat.ne_of_lt (Nat.lt_of_lt_of_le J.lt zb)),fun y c ey q=>?_,fun p hp q=>?_⟩
   ·obtain⟨v,o,ho,_⟩:=J.cell y c ey
    rw[q]at ho
    exact Nat.lt_irrefl _ (Nat.lt_of_lt_of_le (Heap.lt_size ho) zb)
   ·have:=(J.pin p hp).1
    rw[q]at this
    exact Nat.lt_irrefl _ (Nat.lt_of_lt_of_le (Heap.lt_size this) zb)
  have okh:bz X.prog X.w H' h':=fun b u q=>by
   have nf:∀c v,H' c=some v->c∉ck (X.env::X.outer):=fun c v r z=>by
    have:=I2.r9 c (by rw[e1];exact z)
    rw[r]at this;cases this
   have nx:∀c v,H' c=some v->c∉[ea,T]:=fun c v r z=>by
    rcases List.mem_cons.mp z with rfl|z
    ·rw[n1]at r;cases r
    ·rw[List.mem_singleton.mp z,n2]at r;cases r
   refine(I2.ax b u q).ie (fun c v hc r=>?_) (fun _ r=>r) fun _ _ r=>r
   rcases hc with rfl|hc
   ·exact Fe.keep c v r (nx _ _ q) (nf _ _ q)
   ·exact Fe.keep c v r (nx _ _ hc) (nf _ _ hc)
  have un2:Un (ck (X.tr E1 (X.pn++pins)).stack) [ea,T] H' H' hh h':=by
   rw[e1]
   refine⟨fun b o q n nf nx=>Fe.keep b o q nx nf,fun b o q n nf nx=>Fe.slot b o q nx nf,fun _ _ _ n _=>n,fun b o q nx=>?_,fun _ _ q=>q,fun _ _ _ q=>q,fun b ps q=>⟨#[],by rw[q];simp⟩⟩
   by_cases hm:b∈ck (X.env::X.outer)
   ·obtain⟨sl,q'⟩:=Fe.slot b o q nx hm
    exact⟨_,q'⟩
   ·exact⟨_,Fe.keep b o q nx hm⟩
  have I3:=I2.call (h':=h') (g':=g) (d':=d) (t':=t) (ch:=[ea,T]) un2 okh bare (fun b hb=>chk b (by
   rcases List.mem_cons.mp hb with z|z
   ·exact .inl z
   ·exact .inr (List.mem_singleton.mp z)))
  obtain⟨oe,vs,qe,hcls,hdict,hdat,hv1⟩:=id b
  obtain⟨oT,ts,qT,hdT,hT3⟩:=id c
  have I4:Inv X pins (blind X) H' ⟨h',g,d,t,s1.os⟩:=I3.E4.kM (by
   intro p hp
   exact List.mem_append_left _ hp)
  have hpin:∀p∈(X.pn++pins++[(ea,oe)])++[],(⟨h',g,d,t,s1.os⟩:Shared).heap.get? p.1=some p.2/\H' p.1=none/\p.1≠X.env.locals/\p.1∉X.fs/\∀v,p.2.data≠ .cell v:=fun p hp=>by
   rw[List.append_nil]at hp
   rcases List.mem_append.mp hp with hp|hp
   ·exact I4.pin p hp
   ·rw[List.mem_singleton.mp hp]
    refine⟨qe,n1,(chk ea (.inl rfl)).2.1,fun z=>?_,fun v z=>by rw[hdat]at z;cases z⟩
    obtain⟨_,o,ho,_⟩:=J.ok.dq.mem z
    exact absurd (Nat.lt_of_lt_of_le (Heap.lt_size ho) (Nat.le_trans s0 z1)) (Nat.lt_irrefl _)
  have I5:Inv (X.fQ ea (X.pn++pins++[(ea,oe)])) [] (blind X) H' ⟨h',g,d,t,s1.os⟩:=I4.fQ hpin
  refine wpAny_handleBy_cons (codeAny_handlers_test ?_) (by intro q;cases q)
  refine hU (X:=X.fQ ea (X.pn++pins++[(ea,oe)])) I5 hg hm ?_ hd
  refine LD I5.bh hC hF hsub qe hcls ?_
  dsimp only
  refine codeAny_handlers_suite_as (wpAny_setFlight_none qe hdat hv1 qT hdT (Array.getElem?_eq_some_iff.mp hT3).1 ?_)
  rw[Heap.update_setField_same h' T' oT ts 3 .none qT hdT hT3]
  refine tP (X:=X.fQ ea (X.pn++pins++[(ea,oe)])) I5 hN hi (.inl hl) (show RelV (.ref ea) (.ref ea)from rfl) (fun s6 I6=>?_) (.inl hfn)
  refine wpAny_mono (hs ea (X.pn++pins++[(ea,oe)]) [] s6 _ H' _ I6 (hth ea oe vs _ (List.mem_append_right _ (List.mem_singleton.mpr rfl)) hcls hdict hdat)) (fun fl s7 q7=>?_) fun _ _ z=>False.elim z
  have ho:X.Ok:=I.ok
  have fin:∀(σ':St)(H2:Hp),Inv (X.fQ ea (X.pn++pins++[(ea,oe)])) [] σ' H2 s7->∀(Q7:Unit->Shared->Prop)(E7:Value->Shared->Prop),(∀s8,Inv X pins (blind X) H2 s8->Q7 () s8)->
    wpAny (model X.prog X.w) X.A (do bindName X.env n .none;unbindBehindTheSuite X.env n hpos) Q7 E7 s7:=fun σ' H2 I7 Q7 E7 k=>by
   obtain⟨m,hnm,_⟩:=I7.loc
   have I8:Inv X pins σ' H2 s7:=I7.Mi ho (fun p hp=>List.mem_append_left _ (List.mem_append_left _ hp))
   refine wpAny_nameGoes hl hnm (by rw[ho.kind];rfl) fun h9 m9 hn9 hs9=>k _ (I8.FZ hn9 hs9)
  cases fl with
  |next=>
   obtain⟨σ',H2,I7,q⟩:=q7
   exact fin σ' H2 I7 _ _ fun s8 I8=>⟨_,H2,I8,q⟩
  |ret u=>
   obtain⟨v,σ',H2,I7,r,q⟩:=q7
   exact fin σ' H2 I7 _ _ fun s8 I8=>⟨v,_,H2,I8,r,q⟩
  |brk=>obtain⟨_,_,_,q⟩:=q7;exact q.elim
  |cont=>obtain⟨_,_,_,q⟩:=q7;exact q.elim
 refine wpAny_mono (hb E1 (X.pn++pins) _ hp [] s σ H D I' h) (fun fl s1 q=>?_) fun e s1 q=>?_
 ·cases fl with
  |next=>
   obtain⟨σ',H',J,q⟩:=q
   exact wpAny_execs_nil ⟨σ',H',J.kM (fun p hp=>List.mem_append_left _ hp),q⟩
  |ret u=>
   obtain⟨v,σ',H',J,r,q⟩:=q
   exact⟨v,σ',H',J.kM (fun p hp=>List.mem_append_left _ hp),r,q⟩
  |brk=>
   obtain⟨σ',H',J,q⟩:=q
   exact⟨σ',H',J.kM (fun p hp=>List.mem_append_left _ hp),q⟩
  |cont=>
   obtain⟨σ',H',J,q⟩:=q
   exact⟨σ',H',J.kM (fun p hp=>List.mem_append_left _ hp),q⟩
 ·exact q
end
end L2
end
section
section
set_option Elab.async false
set_option linter.all false
set_option maxRecDepth 100000
set_option maxHeartbeats 2000000
namespace L2
open PySem PySem.Spec PyProof.Rows
open PySem.W (WData Codec OpenSpec Well WellAll ReadsW ReadsAllW)
mutual
inductive Dw(K:PySem.W.Frag)(H:Hp):V->WData->Prop
 |aw:Dw K H .aw .none
 |bl (b:Bool):Dw K H (.bl b) (.bool b)
 |int (i:Int):Dw K H (.int i) (.int i)
 |str (x:Str):Dw K H (.str x) (.str x)
 |dZ (b:Array UInt8):Dw K H (.dZ b) (.bytes b.toList)
 |lst {a:Addr} {xs:List V} {ds:List WData}:aO K H a xs->eN K H xs ds->Dw K H (.ref a) (.list ds)
 |tup {a:Addr} {xs:List V} {ds:List WData}:fo K H a xs->eN K H xs ds->Dw K H (.ref a) (.tuple ds)
inductive eN(K:PySem.W.Frag)(H:Hp):List V->List WData->Prop
 |nil:eN K H [] []
 |cons {v:V} {vs:List V} {d:WData} {ds:List WData}:Dw K H v d->eN K H vs ds->eN K H (v::vs) (d::ds)
end
theorem Be{K:PySem.W.Frag}{H:Hp}:∀ns:List Int,eN K H (ns.map V.int) (ns.map WData.int)
 |[]=>.nil
 |n::r=>.cons (.int n) (Be r)
theorem Ao{K:PySem.W.Frag}{H:Hp}:∀(ns:List Int)(xs:List V),eN K H xs (ns.map WData.int)->xs=ns.map V.int
 |[],xs,h=>by
  cases h
  rfl
 |n::r,xs,h=>by
  cases h with
  |cons h1 h2=>
   cases h1
   rw[Ao r _ h2]<;>rfl
section
variable {P:Program}{w:World}{K:PySem.W.Frag}{H:Hp}{h:Heap}{R:PySem.W.WRecords}{cl:Str->Option Addr}
theorem Ky{a:Addr}{xs:List V}(ax:bz P w H h)(KX:K.In h)(q:aO K H a xs):∃(its:List Value)(o:Obj)(n:Nat),aF xs its/\h.get? a=some o/\o.cls=.type "list"/\o.data=.seq its.toArray n:=by
 rcases q with q|⟨o,its,n,e,hc,_,hd,_,hv⟩
 ·obtain⟨_,its,n,hv,e⟩:=(show cf P w H h a (.lst xs)from q.ok ax)
  exact⟨its,_,n,hv,e,rfl,rfl⟩
 ·exact⟨its.toList,o,n,hv,KX _ _ e,hc,by simp[hd]⟩
theorem L5{a:Addr}{xs:List V}(ax:bz P w H h)(KX:K.In h)(q:fo K H a xs):∃(its:List Value)(o:Obj)(n:Nat),aF xs its/\h.get? a=some o/\o.cls=.type "tuple"/\o.data=.seq its.toArray n:=by
 rcases q with q|⟨o,its,n,e,hc,hd,_,hv⟩
 ·obtain⟨_,its,hv,o,e,hc,n,hd⟩:=(show cf P w H h a (.tup xs)from q.ok ax)
  exact⟨its,o,n,hv,e,hc,hd⟩
 ·exact⟨its.toList,o,n,hv,KX _ _ e,hc,by simp[hd]⟩
mutual
theorem Dw.reads(ax:bz P w H h)(KX:K.In h):∀(d:WData)(v:V)(u:Value),Dw K H v d->RelV v u->∃as,ReadsW R cl h u d as
 | .none,_,_,x,r=>by
  cases x
  cases r
  exact⟨_,ReadsW.none⟩
 | .bool b,_,_,x,r=>by
  cases x
  cases r
  exact⟨_,ReadsW.bool b⟩
 | .int i,_,_,x,r=>by
  cases x
  obtain⟨t,rfl⟩:=r
  exact⟨_,ReadsW.int i t⟩
 | .str s,_,_,x,r=>by
  cases x
  obtain⟨t,rfl⟩:=r
  exact⟨_,ReadsW.str s t⟩
 | .bytes b,_,_,x,r=>by
  cases x
  obtain⟨t,rfl⟩:=r
  exact⟨_,ReadsW.bytes _ t⟩
 | .list ds,_,_,x,r=>by
  cases x with
  |lst hs ha=>
   cases r
   obtain⟨its,o,n,rv,ho,hc,hd⟩:=Ky ax KX hs
   obtain⟨as,hr⟩:=Dw.readsAll ax KX ds _ its ha rv
   exact⟨_,ReadsW.list ho hc hd hr⟩
 | .tuple ds,_,_,x,r=>by
  cases x with
  |tup hs ha=>
   cases r
   obtain⟨its,o,n,rv,ho,hc,hd⟩:=L5 ax KX hs
   obtain⟨as,hr⟩:=Dw.readsAll ax KX ds _ its ha rv
   exact⟨_,ReadsW.tuple ho hc hd hr⟩
 | .float _,_,_,x,_=>by cases x
 | .dict _,_,_,x,_=>by cases x
 | .bytearray _,_,_,x,_=>by cases x
 | .set _,_,_,x,_=>by cases x
 | .frozenset _,_,_,x,_=>by cases x
 | .obj _ _,_,_,x,_=>by cases x
theorem Dw.readsAll(ax:bz P w H h)(KX:K.In h):∀(ds:List WData)(vs:List V)(us:List Value),eN K H vs ds->aF vs us->∃as,ReadsAllW R cl h us ds as
 |[],_,_,x,r=>by
  cases x
  cases r
  exact⟨_,ReadsAllW.nil⟩
 |d::ds,_,_,x,r=>by
  cases x with
  |cons h1 h2=>
   cases r with
   |cons r1 r2=>
    obtain⟨as,q1⟩:=Dw.reads ax KX d _ _ h1 r1
    obtain⟨bs,q2⟩:=Dw.readsAll ax KX ds _ _ h2 r2
    exact⟨_,ReadsAllW.cons q1 q2⟩
end
end
mutual
def eU:WData->Bool
 | .none=>true
 | .bool _=>true
 | .int _=>true
 | .str _=>true
 | .bytes _=>true
 | .list xs=>fF xs
 | .tuple xs=>fF xs
 |_=>false
def fF:List WData->Bool
 |[]=>true
 |x::r=>eU x&&fF r
end
theorem Bx{α:Type}{f:α->WData}(h:∀a,eU (f a)=true):∀l:List α,fF (l.map f)=true
 |[]=>rfl
 |x::r=>by
  show(eU (f x)&&fF (r.map f))=true
  rw[h x,Bx h r]<;>rfl
theorem iU:∀(c:Codec)(a:c.denote),eU (c.enc a)=true
 | .unit,_=>rfl
 | .bool,_=>rfl
 | .int _ _,_=>rfl
 | .nat _ _,_=>rfl
 | .u8,_=>rfl
 | .bytes _ _,_=>rfl
 | .text _ _ _ _,_=>rfl
 | .list _ _ c,a=>Bx (fun x=>iU c x) a
 | .pair c d,a=>by
  show(eU (c.enc a.1)&&(eU (d.enc a.2)&&true))=true
  rw[iU c a.1,iU d a.2]<;>rfl
 | .triple c d e,a=>by
  show(eU (c.enc a.1)&&(eU (d.enc a.2.1)&&(eU (e.enc a.2.2)&&true)))=true
  rw[iU c a.1,iU d a.2.1,iU e a.2.2]<;>rfl
 | .option c,none=>rfl
 | .option c,some x=>iU c x
theorem DL:∀(cs:List Codec)(a:Codec.denoteAll cs),fF (Codec.encAll cs a)=true
 |[],_=>rfl
 |c::cs,a=>by
  show(eU (c.enc a.1)&&fF (Codec.encAll cs a.2))=true
  rw[iU c a.1,DL cs a.2]<;>rfl
theorem uV:∀{xs:List WData}{d:WData},d∈xs->d.weight<=WData.weightAll xs
 |[],d,h=>absurd h (by simp)
 |x::r,d,h=>by
  show d.weight<=x.weight+1+WData.weightAll r
  rcases List.mem_cons.mp h with e|m
  ·rw[e]
   omega
  ·have z:=uV m
   omega
def toV:Value->V
 | .none=>.aw
 | .bool b=>.bl b
 | .int i _=>.int i
 | .str x _=>.str x
 | .bytes b _=>.dZ b
 | .ref a=>.ref a
 |_=>.aw
def fz(A:List Addr):Value->Prop
 | .none=>True
 | .bool _=>True
 | .int _ _=>True
 | .str _ _=>True
 | .bytes _ _=>True
 | .ref a=>a∈A
 |_=>False
theorem fz.mono{A B:List Addr}(h:∀a∈A,a∈B):∀{u:Value},fz A u->fz B u:=fun{u}x=>by
 cases u with
 |ref a=>exact h a x
 |none=>trivial
 |bool b=>trivial
 |int i t=>trivial
 |str s t=>trivial
 |bytes b t=>trivial
 |_=>exact False.elim x
theorem Ew{A:List Addr}{u:Value}(x:fz A u):RelV (toV u) u:=by
 cases u with
 |ref a=>rfl
 |none=>rfl
 |bool b=>rfl
 |int i t=>exact⟨t,rfl⟩
 |str s t=>exact⟨t,rfl⟩
 |bytes b t=>exact⟨t,rfl⟩
 |_=>exact False.elim x
theorem lT{A:List Addr}:∀{vs:List Value},(∀u∈vs,fz A u)->aF (vs.map toV) vs
 |[],_=>.nil
 |u::r,h=>.cons (Ew (h u (List.mem_cons_self ..))) (lT fun x hx=>h x (List.mem_cons_of_mem _ hx))
def fZ(h:Heap)(A:List Addr)(a:Addr):Prop:=∃vs:List Value,vs.length<=sizeLine/\(∀u∈vs,fz A u)/\
 (h.get? a=some {cls:=.type "list",data:=.seq vs.toArray}\/h.get? a=some {cls:=.type "tuple",data:=.seq vs.toArray})
theorem fZ.mono{h:Heap}{A B:List Addr}{a:Addr}(k:∀a∈A,a∈B)(x:fZ h A a):fZ h B a:=by
 obtain⟨vs,h1,h2,h3⟩:=x
 exact⟨vs,h1,fun u hu=>(h2 u hu).mono k,h3⟩
theorem sC{P:Params}{h:Heap}:∀{vs:List Value}{ds:List WData},WellAll P h vs ds->vs.length=ds.length
 |_,_,.nil=>rfl
 |_,_,.cons _ b=>by
  show _+1=_+1
  rw[sC b]
theorem DV{P:Params}{h:Heap}{v:Value}{ds:List WData}(x:Well P h v (.list ds)):∃(a:Addr)(vs:List Value),v=.ref a/\h.get? a=some {cls:=.type "list",data:=.seq vs.toArray}/\WellAll P h vs ds:=by
 cases x with
 |list ho hall=>exact⟨_,_,rfl,ho,hall⟩
theorem yR{P:Params}{h:Heap}{v:Value}{ds:List WData}(x:Well P h v (.tuple ds)):∃(a:Addr)(vs:List Value),v=.ref a/\h.get? a=some {cls:=.type "tuple",data:=.seq vs.toArray}/\WellAll P h vs ds:=by
 cases x with
 |tuple ho hall=>exact⟨_,_,rfl,ho,hall⟩
theorem BR{P:Params}{h:Heap}{us:List Value}{d:WData}{ds:List WData}(x:WellAll P h us (d::ds)):∃(v:Value)(vs:List Value),us=v::vs/\Well P h v d/\WellAll P h vs ds:=by
 cases x with
 |cons a b=>exact⟨_,_,rfl,a,b⟩
theorem zk{n:Nat}(h:n<=1048576):n<=sizeLine:=Nat.le_trans h (by decide)
section
variable {P:Params}{h:Heap}
mutual
theorem IE:∀(d:WData)(v:Value),Well P h v d->eU d=true->d.weight<=1048576->∃A:List Addr,fz A v/\∀a∈A,fZ h A a
 | .none,_,x,_,_=>by
  cases x
  exact⟨[],trivial,fun a m=>absurd m (by simp)⟩
 | .bool b,_,x,_,_=>by
  cases x
  exact⟨[],trivial,fun a m=>absurd m (by simp)⟩
 | .int i,_,x,_,_=>by
  cases x
  exact⟨[],trivial,fun a m=>absurd m (by simp)⟩
 | .str s,_,x,_,_=>by
  cases x
  exact⟨[],trivial,fun a m=>absurd m (by simp)⟩
 | .bytes b,_,x,_,_=>by
  cases x
  exact⟨[],trivial,fun a m=>absurd m (by simp)⟩
 | .list ds,_,x,p,z=>by
  obtain⟨a,vs,rfl,ho,hall⟩:=DV x
  have z2:WData.weightAll ds<=1048576:=z
  obtain⟨A,h1,h2⟩:=rp ds _ hall p fun d hd=>Nat.le_trans (uV hd) z2
  have k:∀b∈A,b∈a::A:=fun b hb=>List.mem_cons_of_mem _ hb
  refine⟨a::A,List.mem_cons_self ..,fun b hb=>?_⟩
  rcases List.mem_cons.mp hb with e|m
  ·rw[e]
   exact⟨vs,zk (by rw[sC hall];exact Nat.le_trans (PySem.W.length_le_weightAllW ds) z2),fun u hu=>(h1 u hu).mono k,.inl ho⟩
  ·exact(h2 b m).mono k
 | .tuple ds,_,x,p,z=>by
  obtain⟨a,vs,rfl,ho,hall⟩:=yR x
  have z2:WData.weightAll ds<=1048576:=z
  obtain⟨A,h1,h2⟩:=rp ds _ hall p fun d hd=>Nat.le_trans (uV hd) z2
  have k:∀b∈A,b∈a::A:=fun b hb=>List.mem_cons_of_mem _ hb
  refine⟨a::A,List.mem_cons_self ..,fun b hb=>?_⟩
  rcases List.mem_cons.mp hb with e|m
  ·rw[e]
   exact⟨vs,zk (by rw[sC hall];exact Nat.le_trans (PySem.W.length_le_weightAllW ds) z2),fun u hu=>(h1 u hu).mono k,.inr ho⟩
  ·exact(h2 b m).mono k
 | .float _,_,_,p,_=>Bool.noConfusion (show false=true from p)
 | .dict _,_,_,p,_=>Bool.noConfusion (show false=true from p)
 | .bytearray _,_,_,p,_=>Bool.noConfusion (show false=true from p)
 | .set _,_,_,p,_=>Bool.noConfusion (show false=true from p)
 | .frozenset _,_,_,p,_=>Bool.noConfusion (show false=true from p)
 | .obj _ _,_,_,p,_=>Bool.noConfusion (show false=true from p)
theorem rp:∀(ds:List WData)(vs:List Value),WellAll P h vs ds->fF ds=true->(∀d∈ds,d.weight<=1048576)->∃A:List Addr,(∀u∈vs,fz A u)/\∀a∈A,fZ h A a
 |[],_,x,_,_=>by
  cases x
  exact⟨[],fun u m=>absurd m (by simp),fun a m=>absurd m (by simp)⟩
 |d::ds,_,x,p,z=>by
  obtain⟨v,vs,rfl,x1,x2⟩:=BR x
  have q:eU d=true/\fF ds=true:=Bool.and_eq_true_iff.mp p
  obtain⟨A,a1,a2⟩:=IE d v x1 q.1 (z d (List.mem_cons_self ..))
  obtain⟨B,b1,b2⟩:=rp ds vs x2 q.2 fun e he=>z e (List.mem_cons_of_mem _ he)
  have kA:∀b∈A,b∈A++B:=fun b hb=>List.mem_append.mpr (.inl hb)
  have kB:∀b∈B,b∈A++B:=fun b hb=>List.mem_append.mpr (.inr hb)
  refine⟨A++B,fun u hu=>?_,fun b hb=>?_⟩
  ·rcases List.mem_cons.mp hu with e|m
   ·rw[e]
    exact a1.mono kA
   ·exact(b1 u m).mono kB
  ·rcases List.mem_append.mp hb with m|m
   ·exact(a2 b m).mono kA
   ·exact(b2 b m).mono kB
end
end
def sG(o:Obj):Option HO:=match o.data with
 | .seq vs _=>if(o.cls==Value.type "list")=true then some (.cT o (.lst (vs.toList.map toV)))else some (.cT o (.tup (vs.toList.map toV)))
 |_=>none
def dy(K:PySem.W.Frag)(h:Heap)(A:List Addr):Hp:=fun b=>if b∈A then(if(K.lookup b).isNone=true then(h.get? b).bind sG else none)else none
def mv(H:Hp):Prop:=∀b,H b=none\/∃o u,H b=some (.cT o u)
theorem DE(vs:List Value):sG {cls:=.type "list",data:=.seq vs.toArray}=some (.cT {cls:=.type "list",data:=.seq vs.toArray} (.lst (vs.map toV))):=by
 show(if(Value.type "list"==Value.type "list")=true then some (HO.cT {cls:=.type "list",data:=.seq vs.toArray} (.lst (vs.toArray.toList.map toV)))else some (HO.cT {cls:=.type "list",data:=.seq vs.toArray} (.tup (vs.toArray.toList.map toV))))=_
 rw[if_pos (beq_self_eq_true _)]
theorem AX(vs:List Value):sG {cls:=.type "tuple",data:=.seq vs.toArray}=some (.cT {cls:=.type "tuple",data:=.seq vs.toArray} (.tup (vs.map toV))):=by
 show(if(Value.type "tuple"==Value.type "list")=true then some (HO.cT {cls:=.type "tuple",data:=.seq vs.toArray} (.lst (vs.toArray.toList.map toV)))else some (HO.cT {cls:=.type "tuple",data:=.seq vs.toArray} (.tup (vs.toArray.toList.map toV))))=_
 rw[if_neg (by decide)]
section
variable {P:Program}{w:World}{K:PySem.W.Frag}{h:Heap}{A:List Addr}
theorem rV{b:Addr}{o:Obj}(hb:b∈A)(hk:K.lookup b=none)(e:h.get? b=some o):dy K h A b=sG o:=by
 unfold dy
 rw[if_pos hb,hk,if_pos (show(none:Option Obj).isNone=true from rfl),e]<;>rfl
theorem GR{b:Addr}{u:HO}(q:dy K h A b=some u):b∈A/\K.lookup b=none:=by
 unfold dy at q
 by_cases hb:b∈A
 ·rw[if_pos hb]at q
  cases hk:K.lookup b with
  |none=>exact⟨hb,rfl⟩
  |some o=>
   rw[hk,if_neg (by simp)]at q
   cases q
 ·rw[if_neg hb]at q
  cases q
theorem rR(ar:∀a∈A,fZ h A a){b:Addr}{u:HO}(q:dy K h A b=some u):K.lookup b=none/\∃vs:List Value,vs.length<=sizeLine/\(∀u∈vs,fz A u)/\
  ((h.get? b=some {cls:=.type "list",data:=.seq vs.toArray}/\u=.cT {cls:=.type "list",data:=.seq vs.toArray} (.lst (vs.map toV)))\/
   (h.get? b=some {cls:=.type "tuple",data:=.seq vs.toArray}/\u=.cT {cls:=.type "tuple",data:=.seq vs.toArray} (.tup (vs.map toV)))):=by
 obtain⟨hb,hk⟩:=GR q
 obtain⟨vs,h1,h2,h3⟩:=ar b hb
 refine⟨hk,vs,h1,h2,?_⟩
 rcases h3 with e|e
 ·rw[rV hb hk e,DE]at q
  exact .inl ⟨e,(Option.some.inj q).symm⟩
 ·rw[rV hb hk e,AX]at q
  exact .inr ⟨e,(Option.some.inj q).symm⟩
theorem EG(ar:∀a∈A,fZ h A a):mv (dy K h A):=fun b=>by
 cases q:dy K h A b with
 |none=>exact .inl rfl
 |some u=>
  obtain⟨_,vs,_,_,⟨_,e⟩|⟨_,e⟩⟩:=rR ar q
  ·exact .inr ⟨_,_,by rw[e]⟩
  ·exact .inr ⟨_,_,by rw[e]⟩
theorem Hs(ar:∀a∈A,fZ h A a):bz P w (dy K h A) h:=fun b u q=>by
 obtain⟨_,vs,h1,h2,⟨e,rfl⟩|⟨e,rfl⟩⟩:=rR ar q
 ·exact⟨e,by rw[List.length_map];exact h1,vs,_,lT h2,e⟩
 ·exact⟨e,by rw[List.length_map];exact h1,vs,lT h2,_,e,rfl,_,rfl⟩
theorem qL{c c':Value}{vs us:List Value}(e:(some {cls:=c,data:=.seq vs.toArray}:Option Obj)=some {cls:=c',data:=.seq us.toArray}):c=c'/\vs=us:=by
 have e1:=Option.some.inj e
 have e2:c=c':=congrArg Obj.cls e1
 have e3:Data.seq vs.toArray=Data.seq us.toArray:=congrArg Obj.data e1
 injection e3 with e4
 refine⟨e2,?_⟩
 have e5:=congrArg Array.toList e4
 simpa using e5
theorem IP(KX:K.In h)(ar:∀a∈A,fZ h A a){a:Addr}{vs:List Value}(ha:a∈A)(e:h.get? a=some {cls:=.type "list",data:=.seq vs.toArray}):(∀u∈vs,fz A u)/\aO K (dy K h A) a (vs.map toV):=by
 obtain⟨us,h1,h2,h3⟩:=ar a ha
 have hu:us=vs:=by
  rcases h3 with q|q
  ·rw[e]at q
   exact(qL q).2.symm
  ·rw[e]at q
   exact absurd (Value.type.inj (qL q).1) (by decide)
 subst hu
 refine⟨h2,?_⟩
 cases hk:K.lookup a with
 |none=>exact .inl (.inr ⟨_,by rw[rV ha hk e,DE]⟩)
 |some o=>
  have e2:=KX a o hk
  rw[e]at e2
  obtain rfl:=Option.some.inj e2
  exact .inr ⟨_,us.toArray,_,hk,rfl,rfl,rfl,by rw[List.size_toArray];exact h1,by simpa using lT h2⟩
theorem KU(KX:K.In h)(ar:∀a∈A,fZ h A a){a:Addr}{vs:List Value}(ha:a∈A)(e:h.get? a=some {cls:=.type "tuple",data:=.seq vs.toArray}):(∀u∈vs,fz A u)/\fo K (dy K h A) a (vs.map toV):=by
 obtain⟨us,h1,h2,h3⟩:=ar a ha
 have hu:us=vs:=by
  rcases h3 with q|q
  ·rw[e]at q
   exact absurd (Value.type.inj (qL q).1) (by decide)
  ·rw[e]at q
   exact(qL q).2.symm
 subst hu
 refine⟨h2,?_⟩
 cases hk:K.lookup a with
 |none=>exact .inl (.inr ⟨_,by rw[rV ha hk e,AX]⟩)
 |some o=>
  have e2:=KX a o hk
  rw[e]at e2
  obtain rfl:=Option.some.inj e2
  exact .inr ⟨_,us.toArray,_,hk,rfl,rfl,by rw[List.size_toArray];exact h1,by simpa using lT h2⟩
mutual
theorem Lz{Pm:Params}(KX:K.In h)(ar:∀a∈A,fZ h A a):∀(d:WData)(v:Value),Well Pm h v d->eU d=true->fz A v->Dw K (dy K h A) (toV v) d
 | .none,_,x,_,_=>by
  cases x
  exact .aw
 | .bool b,_,x,_,_=>by
  cases x
  exact .bl b
 | .int i,_,x,_,_=>by
  cases x
  exact .int i
 | .str s,_,x,_,_=>by
  cases x
  exact .str s
 | .bytes b,_,x,_,_=>by
  cases x
  have z:=Dw.dZ (K:=K) (H:=dy K h A) b.toArray
  exact z
 | .list ds,_,x,p,hu=>by
  obtain⟨a,vs,rfl,ho,hall⟩:=DV x
  obtain⟨h2,hs⟩:=IP KX ar hu ho
  exact .lst hs (gn KX ar ds _ hall p h2)
 | .tuple ds,_,x,p,hu=>by
  obtain⟨a,vs,rfl,ho,hall⟩:=yR x
  obtain⟨h2,hs⟩:=KU KX ar hu ho
  exact .tup hs (gn KX ar ds _ hall p h2)
 | .float _,_,_,p,_=>Bool.noConfusion (show false=true from p)
 | .dict _,_,_,p,_=>Bool.noConfusion (show false=true from p)
 | .bytearray _,_,_,p,_=>Bool.noConfusion (show false=true from p)
 | .set _,_,_,p,_=>Bool.noConfusion (show false=true from p)
 | .frozenset _,_,_,p,_=>Bool.noConfusion (show false=true from p)
 | .obj _ _,_,_,p,_=>Bool.noConfusion (show false=true from p)
theorem gn{Pm:Params}(KX:K.In h)(ar:∀a∈A,fZ h A a):∀(ds:List WData)(vs:List Value),WellAll Pm h vs ds->fF ds=true->(∀u∈vs,fz A u)->eN K (dy K h A) (vs.map toV) ds
 |[],_,x,_,_=>by
  cases x
  exact .nil
 |d::ds,_,x,p,hu=>by
  obtain⟨v,vs,rfl,x1,x2⟩:=BR x
  have q:eU d=true/\fF ds=true:=Bool.and_eq_true_iff.mp p
  exact .cons (Lz KX ar d v x1 q.1 (hu _ (List.mem_cons_self ..))) (gn KX ar ds vs x2 q.2 fun u m=>hu u (List.mem_cons_of_mem _ m))
end
end
theorem Fl{P:Program}{w:World}{K:PySem.W.Frag}{mg mb:Str->Option Value}{CX:dz}{k:Nat}{fa:Addr}{fd:FuncData}{ps:List Str}{sp:Sp}{s₁:Shared}{vals:List Value}{ds:List WData}{R:PySem.W.WRecords}{cl:Str->Option Addr}{d0:WData}
  (KX:K.In s₁.heap) (hns:s₁.heap.Ns mainGlobals mg) (hb:s₁.heap.Ns builtinsNs mb) (hbb:∀x:Str,x≠"__name__"->mb x=bootBuiltins x) (hlim:s₁.heap.NoLimit) (hg:s₁.gens=#[])
  (hwl:WellAll w.params s₁.heap vals ds) (hpl:fF ds=true) (hwt:∀d∈ds,d.weight<=1048576) (hr:bp k callerA)
  (F:∀base:Heap,K.In base->base.Ns mainGlobals mg->aB P w K mg base CX k fa fd ps sp) (hbind:∀(s:Shared)(us:List Value),us.length=ps.length->BindsTo s fd ⟨us,[]⟩ (ps.zip us)) (hlen:ds.length=ps.length)
  (hsp:∀(H:Hp)(xs:List V),mv H->eN K H xs ds->sp xs H (fun v H'=>Dw K H' v d0) fun _ _ _=>False)
  (hCX:∀H e s',CX [] H s₁ (fun _ _ _=>False) e s'->False):
  codeAny (model P w) callerA (.call (.ref fa) ⟨vals,[]⟩) (fun r s'=>∃u as,r=.ok (.ret u)/\ReadsW R cl s'.heap u d0 as/\OldK s₁.heap s'.heap/\s'.os=s₁.os/\AllBare s'.gens) s₁:=by
 obtain⟨A,ho,ar⟩:=rp ds vals hwl hpl hwt
 have hO:mv (dy K s₁.heap A):=EG ar
 have ax:bz P w (dy K s₁.heap A) s₁.heap:=Hs ar
 have hS:=gn KX ar ds vals hwl hpl ho
 have hV:=lT ho
 have hK:∀b u,dy K s₁.heap A b=some u->K.lookup b=none:=fun b u q=>(rR ar q).1
 have noA:∀{b:Addr}{o:Obj}{es:Array DictEntry}{ep:Nat},s₁.heap.get? b=some o->o.data=.dict es ep->dy K s₁.heap A b=none:=fun{b o es ep}e d=>by
  cases q:dy K s₁.heap A b with
  |none=>rfl
  |some u=>
   obtain⟨_,vs,_,_,⟨e2,_⟩|⟨e2,_⟩⟩:=rR ar q
   ·rw[e2]at e
    cases e
    have d':Data.seq vs.toArray _=Data.dict es ep:=d
    cases d'
   ·rw[e2]at e
    cases e
    have d':Data.seq vs.toArray _=Data.dict es ep:=d
    cases d'
 generalize dy K s₁.heap A=H at hO ax hS hK noA
 have base_of:∀{b:Addr}{o:Obj},s₁.heap.get? b=some o->H b=none->(il s₁.heap H).get? b=some o:=fun e n=>Ir e n
 have nsK:∀{b:Addr}{m:Str->Option Value},s₁.heap.Ns b m->(il s₁.heap H).Ns b m:=fun{b m}⟨o,es,ep,e,d,r⟩=>⟨o,es,ep,base_of e (noA e d),d,r⟩
 have nK:∀b o,K.lookup b=some o->H b=none:=fun b o e=>by
  cases q:H b with
  |none=>rfl
  |some u=>
   rw[hK b u q]at e
   cases e
 have hKb:K.In (il s₁.heap H):=fun b o e=>base_of (KX b o e) (nK b o e)
 have hM:Mod K mg (il s₁.heap H):=⟨hKb,nsK hns,⟨mb,nsK hb,hbb⟩,let⟨mc,h1,h2⟩:=hlim;⟨mc,nsK h1,h2⟩⟩
 have e0:fm P w K mg (il s₁.heap H) callerA [] s₁ H:=⟨rfl,hM,fun b o e=>FD e,Nat.le_of_eq (Jm _ _),trivial,fun b hb=>absurd (show b∈([]:List Addr)from hb) (by simp),ax,.of_eq hg⟩
 have hl:vals.length=ps.length:=by rw[sC hwl];exact hlen
 refine codeAny_mono ((F _ hKb (nsK hns)).run callerA [] s₁ H ⟨vals,[]⟩ vals (vals.map toV) _ _ hr e0 (hbind s₁ vals hl) hV (hsp H _ hO hS)) fun r s' x=>?_
 cases r with
 |error e=>exact(hCX H e s' x).elim
 |ok fl=>
  cases fl with
  |next=>exact False.elim x
  |brk=>exact False.elim x
  |cont=>exact False.elim x
  |ret u=>
   obtain⟨v,H',os,bare,un,hok',r',q⟩:=x
   have kept:∀b o,s₁.heap.get? b=some o->s'.heap.get? b=some o:=fun b o e=>by
    cases q2:H b with
    |none=>exact un.keep b o e q2 (by intro z;exact absurd (show b∈([]:List Addr)from z) (by simp)) (by simp)
    |some u2=>
     rcases hO b with z|⟨ob,u3,z⟩
     ·rw[q2]at z
      cases z
     ·have z2:=un.d7 b ob _ z
      obtain⟨e1,_⟩:=ax b _ z
      obtain⟨e2,_⟩:=hok' b _ z2
      rw[e]at e1
      cases e1
      exact e2
   have KX':K.In s'.heap:=fun b o e=>kept b o (KX b o e)
   obtain⟨as,hrd⟩:=Dw.reads (R:=R) (cl:=cl) hok' KX' d0 v u q r'
   exact⟨u,as,rfl,hrd,OldK.of_keep kept,os,bare⟩
theorem Ji{ds:List WData}(h:WData.layableAll ds=true):∀d∈ds,d.weight<=1048576:=fun d hd=>
 (PySem.W.layableW_iff.mp (List.all_eq_true.mp h d hd)).2.2
theorem CI:∀(cs:List Codec)(a:Codec.denoteAll cs),(Codec.encAll cs a).length=cs.length
 |[],_=>rfl
 |c::cs,a=>by
  show(Codec.encAll cs a.2).length+1=cs.length+1
  rw[CI cs a.2]
theorem My{r:OpenSpec}{k:Nat}{q:Program}{loose:List Str}{XP:(Str->Option Value)->Heap->Prop}{YP:World->Heap->Prop}{d:DefRec}{K:Params->PySem.W.Frag}{CX:World->dz}{ps:List Str}{sp:World->Sp}
  (hwell:r.wellSaid=true) (hdf:d.params.defaults=[]) (hlen:r.args.length=ps.length) (hr:bp k callerA)
  (hY:∀(w:World)(h:Heap),YP w h->(K w.params).In h)
  (F:∀(w:World)(mg:Str->Option Value)(fa:Addr)(h:Heap),YP w h->(K w.params).In h->h.Ns mainGlobals mg->mg d.name=some (.ref fa)->
   ∃fd:FuncData,(∀(s:Shared)(us:List Value),us.length=ps.length->BindsTo s fd ⟨us,[]⟩ (ps.zip us))/\
    ∀base:Heap,(K w.params).In base->base.Ns mainGlobals mg->aB r.prog w (K w.params) mg base (CX w) k fa fd ps (sp w))
  (hsp:∀(w:World)(H:Hp)(xs:List V)(a:Codec.denoteAll r.args),mv H->Codec.withinAll r.args a=true->Codec.app r.args r.asked a=true->eN (K w.params) H xs (Codec.encAll r.args a)->
   sp w xs H (fun v H'=>Dw (K w.params) H' v (r.ret.enc (Codec.app r.args r.f a))) fun _ _ _=>False)
  (hCX:∀(w:World)(H:Hp)(s:Shared)(e:Value)(s':Shared),CX w [] H s (fun _ _ _=>False) e s'->False):
  PySem.W.WalkOS q loose XP YP r d [] (fun f vs=>PySem.call f vs):=by
 intro w bX s₁ mg mb G Y fa o pm cd doc dV kV ho hd hcd hD hmg hg args vals as hpre hlay hrd hwl hlo
 obtain⟨a,e1,e2⟩:=PySem.W.os_pre_some hpre
 obtain⟨e3,hwi⟩:=Codec.encAll_of_decAll r.args args a e1
 subst e3
 have KX:=hY w _ Y
 obtain⟨fd,hb,hF⟩:=F w mg fa _ Y KX G.T.g hmg
 refine PySem.W.enter_call (codeAny_mono (Fl (R:=[]) (cl:=classAt bX.heap) (d0:=r.ret.enc (Codec.app r.args r.f a)) KX G.T.g G.T.b G.T.builtins G.T.nolimit hg hwl (DL _ _) (Ji hlay) hr hF hb (by rw[CI];exact hlen)
  (fun H xs hO hS=>hsp w H xs a hO hwi e2 hS) fun H e s'=>hCX w H s₁ e s') fun r' s' hq=>?_)
 obtain⟨u,as',rfl,h1,h2,h3,h4⟩:=hq
 exact⟨.inl ⟨u,_,as',rfl,fun _=>rfl,h1,(OpenSpec.post_iff hwell hwi _ _).mpr rfl,fun z=>Bool.noConfusion (show false=true from z)⟩,h2,h3,h4⟩
theorem ED{r:OpenSpec}{k:Nat}{q:Program}{loose:List Str}{XP:(Str->Option Value)->Heap->Prop}{YP:World->Heap->Prop}{d:DefRec}{K:Params->PySem.W.Frag}{CX:dz}{ps:List Str}{sp:PySem.W.Frag->Sp}
  (hwell:r.wellSaid=true) (hdf:d.params.defaults=[]) (hlen:r.args.length=ps.length) (hr:bp k callerA)
  (hY:∀(w:World)(h:Heap),YP w h->(K w.params).In h)
  (F:∀(w:World)(mg:Str->Option Value)(fa:Addr)(h:Heap),YP w h->(K w.params).In h->h.Ns mainGlobals mg->mg d.name=some (.ref fa)->
   ∃fd:FuncData,(∀(s:Shared)(us:List Value),us.length=ps.length->BindsTo s fd ⟨us,[]⟩ (ps.zip us))/\
    ∀base:Heap,(K w.params).In base->base.Ns mainGlobals mg->aB r.prog w (K w.params) mg base CX k fa fd ps (sp (K w.params)))
  (hsp:∀(K:PySem.W.Frag)(H:Hp)(xs:List V)(a:Codec.denoteAll r.args),mv H->Codec.withinAll r.args a=true->Codec.app r.args r.asked a=true->eN K H xs (Codec.encAll r.args a)->
   sp K xs H (fun v H'=>Dw K H' v (r.ret.enc (Codec.app r.args r.f a))) fun _ _ _=>False)
  (hCX:∀(H:Hp)(s:Shared)(e:Value)(s':Shared),CX [] H s (fun _ _ _=>False) e s'->False):
  PySem.W.WalkOS q loose XP YP r d [] (fun f vs=>PySem.call f vs):=
 My (K:=K) (CX:=fun _=>CX) (sp:=fun w=>sp (K w.params)) hwell hdf hlen hr hY F (fun w H xs a h1 h2 h3 h4=>hsp (K w.params) H xs a h1 h2 h3 h4) fun _ H s e s'=>hCX H s e s'
end L2
end
section
set_option Elab.async false
set_option linter.all false
set_option maxRecDepth 100000
set_option maxHeartbeats 2000000
namespace Wale
open PySem PySem.Spec PyProof.Rows L2
def top(i:Nat):Stmt:=PySem.Challenge.pw_waletexts_s01_judge.main.body.getD i (.Pass ⟨0,0,0,0⟩)
abbrev vw:Stmt:=top 7
abbrev x4:Stmt:=top 8
abbrev yh:Stmt:=top 52
abbrev ym:Stmt:=top 53
abbrev xf:Stmt:=top 54
abbrev yl:Stmt:=top 55
abbrev wy:Stmt:=top 56
abbrev we:Stmt:=top 57
abbrev sr:Stmt:=top 58
abbrev vH:Stmt:=top 59
abbrev wa:Stmt:=top 60
abbrev vk:Stmt:=top 61
abbrev yI:Stmt:=top 62
abbrev uE:Stmt:=top 64
abbrev yg:Stmt:=top 65
abbrev uB:Stmt:=top 66
abbrev w7:Stmt:=top 67
abbrev wO:Stmt:=top 73
abbrev xh:Stmt:=top 74
abbrev xV:Stmt:=top 75
abbrev w6:Stmt:=top 76
abbrev wH:Stmt:=top 77
abbrev yq:Stmt:=top 78
abbrev yJ:Stmt:=top 79
abbrev wm:Stmt:=top 80
abbrev vO:Stmt:=top 81
abbrev vX:Stmt:=top 82
abbrev wI:Stmt:=top 83
abbrev xG:Stmt:=top 84
abbrev wK:Stmt:=top 85
abbrev ui:Stmt:=top 86
abbrev wq:Stmt:=top 87
abbrev xS:Stmt:=top 88
abbrev xX:Stmt:=top 89
abbrev vj:Stmt:=top 90
abbrev yu:Stmt:=top 91
abbrev uO:Stmt:=top 92
abbrev wc:Stmt:=top 93
abbrev yG:Stmt:=top 94
abbrev uv:Stmt:=top 100
abbrev wA:Stmt:=top 101
abbrev wu:Stmt:=top 102
abbrev xB:Stmt:=inClass (top 3) 0
abbrev uM:Stmt:=inClass (top 4) 0
abbrev xx:Stmt:=inClass (top 5) 0
abbrev xi:Stmt:=inClass (top 6) 0
abbrev wC:Stmt:=inClass (top 10) 0
abbrev wW:Stmt:=inClass (top 11) 0
abbrev uf:Stmt:=inClass (top 12) 0
abbrev wJ:Stmt:=inClass (top 13) 0
abbrev vf:Stmt:=inClass (top 14) 0
abbrev uG:Stmt:=inClass (top 15) 0
abbrev vD:Stmt:=inClass (top 16) 0
abbrev vv:Stmt:=inClass (top 17) 0
abbrev yr:Stmt:=inClass (top 27) 0
abbrev uo:Stmt:=inClass (top 27) 1
abbrev xR:Stmt:=inClass (top 27) 2
abbrev yF:Stmt:=inClass (top 27) 3
abbrev uQ:Stmt:=inClass (top 27) 4
abbrev v5:Stmt:=inClass (top 27) 5
abbrev uq:Stmt:=inClass (top 27) 6
abbrev vi:Stmt:=inClass (top 51) 0
abbrev vx:Stmt:=inClass (top 97) 0
abbrev vB:Stmt:=inClass (top 97) 1
abbrev yj:Stmt:=inClass (top 97) 2
abbrev xD:Stmt:=inClass (top 97) 3
abbrev wb:Stmt:=inClass (top 97) 4
abbrev wF:Stmt:=inClass (top 97) 5
abbrev uF:Stmt:=inClass (top 97) 6
abbrev wg:Stmt:=inClass (top 97) 7
abbrev yp:Stmt:=inClass (top 97) 8
abbrev ve:Stmt:=inClass (top 97) 9
abbrev wM:Stmt:=inClass (top 97) 10
structure bu(K:PySem.W.Frag)(mg:Str->Option Value)(x:Str)(st:Stmt)(ps:List Str)(f:Addr)(fd:FuncData):Prop where
 fn:aG K x x st f fd
 bd:Binds K fd ps []
 at_:mg x=some (.ref f)
structure dW(K:PySem.W.Frag)(C:Addr)(x qual:Str)(st:Stmt)(ps:List Str)(f:Addr)(fd:FuncData):Prop where
 fn:aG K x qual st f fd
 bd:Binds K fd ps []
 mt:so K C x f
structure gU(K:PySem.W.Frag)(mg:Str->Option Value)(x:Str)(C F f:Addr):Prop where
 at_:mg x=some (.ref C)
 xc:gq K C f
 xg:o1 K C
 sub:PySem.W.mroIn K C (.ref F)=some true
 nk:bw K C "kind"
 np:bw K C "place"
structure OwnCls(K:PySem.W.Frag)(mg:Str->Option Value)(x:Str)(C f:Addr):Prop where
 at_:mg x=some (.ref C)
 cl:fV K C
 dU:Mk K C f
def hW(K:PySem.W.Frag)(mg:Str->Option Value)(x:Str)(l:List Str)(d:Addr):Prop:=mg x=some (.ref d)/\∀H:Hp,fo K H d (l.map V.str)
def dw(mg:Str->Option Value)(x:Str)(n:Int):Prop:=∃t,mg x=some (.int n t)
def eG(mg:Str->Option Value)(x:Str)(n:Str):Prop:=∃t,mg x=some (.str n t)
structure kC(P:Program)(w:World)(K:PySem.W.Frag)(a:Addr)(kvs:List (Key×V)):Prop where
 ok:∀h:Heap,K.In h->∃vs,KV kvs vs/\h.DictOf (dY P w) a vs
 ns:(a==sysModules)=false
structure rh(K:PySem.W.Frag)(C:Addr):Prop where
 ha:PySem.W.findIn K (.ref C) "__class__"=some (some (.builtin "object.__class__"))
 hm:PySem.W.mroIn K C (.type "object")=some true
set_option genInjectivity false
set_option genSizeOf false
structure Ad where
 pA:Addr
 nM:FuncData
 o4:Addr
 qa:FuncData
 oC:Addr
 nT:FuncData
 pz:Addr
 o5:FuncData
 o9:Addr
 qu:FuncData
 qA:Addr
 qw:FuncData
 pS:Addr
 oa:FuncData
 pQ:Addr
 oY:FuncData
 oJ:Addr
 pZ:FuncData
 oB:Addr
 ql:FuncData
 pU:Addr
 oQ:FuncData
 nO:Addr
 qE:FuncData
 o6:Addr
 nU:FuncData
 oV:Addr
 oR:FuncData
 kD:Addr
 jS:FuncData
 nv:Addr
 ll:FuncData
 mW:Addr
 me:FuncData
 pP:Addr
 oU:FuncData
 qk:Addr
 nI:FuncData
 pq:Addr
 qt:FuncData
 px:Addr
 nR:FuncData
 pK:Addr
 pb:FuncData
 qb:Addr
 pT:FuncData
 o2:Addr
 oz:FuncData
 pd:Addr
 qy:FuncData
 qg:Addr
 nN:FuncData
 ng:Addr
 lH:FuncData
 kK:Addr
 jV:FuncData
 kX:Addr
 nh:FuncData
 om:Addr
 qx:FuncData
 ou:Addr
 nL:FuncData
 pR:Addr
 qh:FuncData
 jO:Addr
 jJ:FuncData
 mx:Addr
 mm:FuncData
 oo:Addr
 pj:FuncData
 mZ:Addr
 lY:FuncData
 pO:Addr
 oy:FuncData
 qo:Addr
 pF:FuncData
 qH:Addr
 pD:FuncData
 j9:Addr
 lb:FuncData
 nY:Addr
 nP:FuncData
 oM:Addr
 oX:FuncData
 j6:Addr
 mF:FuncData
 jA:Addr
 lW:FuncData
 kr:Addr
 nq:FuncData
 jX:Addr
 lO:FuncData
 kx:Addr
 lE:FuncData
 kQ:Addr
 mB:FuncData
 kc:Addr
 lM:FuncData
 jD:Addr
 m4:FuncData
 ku:Addr
 lR:FuncData
 kh:Addr
 lA:FuncData
 j7:Addr
 lU:FuncData
 jG:Addr
 lz:FuncData
 kj:Addr
 lu:FuncData
 lD:Addr
 mf:FuncData
 pE:Addr
 pB:FuncData
 p8:Addr
 oG:FuncData
 mN:Addr
 k8:FuncData
 qj:Addr
 oh:FuncData
 oW:Addr
 nZ:FuncData
 j4:Addr
 mr:FuncData
 kz:Addr
 k7:FuncData
 lQ:Addr
 nF:FuncData
 mX:Addr
 mR:FuncData
 mU:Addr
 nz:FuncData
 lP:Addr
 mE:FuncData
 mQ:Addr
 nG:FuncData
 lx:Addr
 nj:FuncData
 mP:Addr
 kW:FuncData
 mG:Addr
 kZ:FuncData
 mz:Addr
 nH:FuncData
 lG:Addr
 mh:FuncData
 dG:Addr
 gK:Addr
 iP:Addr
 c8:Addr
 cR:Addr
 pI:Addr
 jL:Addr
 p9:Addr
 m3:Addr
 nB:Addr
 nu:Addr
 oK:Addr
 bY:Addr
 bG:Addr
 a9:Addr
 jz:Addr
 kY:Addr
 lB:Addr
 lK:Addr
 jo:Addr
 tG:Addr
 qO:Addr
 qZ:Addr
structure Tx(P:Program)(w:World)(K:PySem.W.Frag)(mg:Str->Option Value)(a:Ad):Prop where
 ud:bu K mg "chained" vw ["level","left","sign","right"] a.pA a.nM
 Ar:bu K mg "has_level" x4 ["node","level"] a.o4 a.qa
 Bh:bu K mg "token_at" yh ["t","start"] a.oC a.nT
 Av:bu K mg "skip_blanks" ym ["t","start"] a.pz a.o5
 A6:bu K mg "skip_comment" xf ["t","start"] a.o9 a.qu
 Cf:bu K mg "word_token" yl ["t","place"] a.qA a.qw
 zc:bu K mg "digit_word_at" wy ["t","place"] a.pS a.oa
 zg:bu K mg "number_token" we ["t","place"] a.pQ a.oY
 spelled:bu K mg "spelled" sr ["codes"] a.oJ a.pZ
 sign_of:bu K mg "sign_of" vH ["byte"] a.oB a.ql
 pH:bu K mg "is_letter" wa ["byte"] a.pU a.oQ
 oS:bu K mg "is_digit" vk ["byte"] a.nO a.qE
 DZ:bu K mg "is_letter_digit_or_underscore" yI ["byte"] a.o6 a.nU
 wo:bu K mg "begins_sum" uE ["token"] a.oV a.oR
 iJ:bu K mg "read_sum" yg ["reader"] a.kD a.jS
 wD:bu K mg "read_product" uB ["reader"] a.nv a.ll
 ur:bu K mg "read_factor" w7 ["reader"] a.mW a.me
 Cq:bu K mg "read_pattern" wO ["reader"] a.pP a.oU
 DH:bu K mg "read_head" xh ["reader"] a.qk a.nI
 AK:bu K mg "read_sizes" xV ["reader","token"] a.pq a.qt
 Bn:bu K mg "read_yarns" w6 ["reader","token"] a.px a.nR
 wX:bu K mg "read_new_names" wH ["reader","kind"] a.pK a.pb
 xK:bu K mg "read_new_name" yq ["reader","kind"] a.qb a.pT
 Aj:bu K mg "read_let" yJ ["reader"] a.o2 a.oz
 BP:bu K mg "read_word" wm ["reader"] a.pd a.qy
 zM:bu K mg "read_block" vO ["reader"] a.qg a.nN
 xT:bu K mg "read_braces" vX ["reader"] a.ng a.lH
 uR:bu K mg "read_stats" wI ["reader"] a.kK a.jV
 AU:bu K mg "read_stat" xG ["reader"] a.kX a.nh
 Ck:bu K mg "read_on" wK ["reader"] a.om a.qx
 zD:bu K mg "read_row" ui ["reader"] a.ou a.nL
 yW:bu K mg "read_work" wq ["reader"] a.pR a.qh
 tj:bu K mg "read_row_items" xS ["reader"] a.jO a.jJ
 xt:bu K mg "read_row_item" xX ["reader"] a.mx a.mm
 DU:bu K mg "read_goal" vj ["reader"] a.oo a.pj
 Cg:bu K mg "read_unit" yu ["reader"] a.mZ a.lY
 BS:bu K mg "read_crossing" uO ["reader"] a.pO a.oy
 xj:bu K mg "read_crossing_number" wc ["reader"] a.qo a.pF
 zp:bu K mg "read_lone" yG ["reader"] a.qH a.pD
 judge:bu K mg "judge" uv ["t"] a.j9 a.lb
 CP:bu K mg "read_text" wA ["t"] a.nY a.nP
 refusal:bu K mg "refusal" wu ["fault"] a.oM a.oX
 hZ:aG K "__init__" "Stat.__init__" xB a.j6 a.mF/\Binds K a.mF ["self","phrase","body"] []
 sW:aG K "__init__" "Listed.__init__" uM a.jA a.lW/\Binds K a.lW ["self","phrases"] []
 Bg:aG K "__init__" "Bracketed.__init__" xx a.kr a.nq/\Binds K a.nq ["self","listed"] []
 yQ:aG K "__init__" "Chain.__init__" xi a.jX a.lO/\Binds K a.lO ["self","level","first"] []
 i6:aG K "__init__" "Fault.__init__" wC a.kx a.lE/\Binds K a.lE ["self","kind","place"] []
 yK:aG K "__init__" "ByteFault.__init__" wW a.kQ a.mB/\Binds K a.mB ["self","place"] []
 Dq:aG K "__init__" "NumberFault.__init__" uf a.kc a.lM/\Binds K a.lM ["self","place"] []
 yE:aG K "__init__" "WantFault.__init__" wJ a.jD a.m4/\Binds K a.m4 ["self","place"] []
 zZ:aG K "__init__" "UntoldFault.__init__" vf a.ku a.lR/\Binds K a.lR ["self","place"] []
 sh:aG K "__init__" "AgainFault.__init__" uG a.kh a.lA/\Binds K a.lA ["self","place"] []
 qc:aG K "__init__" "BoundFault.__init__" vD a.j7 a.lU/\Binds K a.lU ["self","place"] []
 DI:aG K "__init__" "SumsFault.__init__" vv a.jG a.lz/\Binds K a.lz ["self","place"] []
 Dk:aG K "__init__" "Names.__init__" yr a.kj a.lu/\Binds K a.lu ["self"] []
 eE:dW K a.bY "amount" "Names.amount" uo ["self","kind"] a.lD a.mf
 uP:dW K a.bY "check_new" "Names.check_new" xR ["self","token","kind"] a.pE a.pB
 pX:dW K a.bY "check_room" "Names.check_room" yF ["self","token","kind"] a.p8 a.oG
 iD:dW K a.bY "tell" "Names.tell" uQ ["self","token","kind"] a.mN a.k8
 u9:dW K a.bY "check_told" "Names.check_told" v5 ["self","token","kind"] a.qj a.oh
 xq:dW K a.bY "stand" "Names.stand" uq ["self","token","kind"] a.oW a.nZ
 Bm:aG K "__init__" "Token.__init__" vi a.j4 a.mr/\Binds K a.mr ["self","kind","text","number","place","after"] []
 Dg:aG K "__init__" "Reader.__init__" vx a.kz a.k7/\Binds K a.k7 ["self","t"] []
 bU:dW K a.a9 "peek" "Reader.peek" vB ["self"] a.lQ a.nF
 cx:dW K a.a9 "step" "Reader.step" yj ["self"] a.mX a.mR
 dO:dW K a.a9 "skip" "Reader.skip" xD ["self","text"] a.mU a.nz
 cH:dW K a.a9 "want" "Reader.want" wb ["self","text"] a.lP a.mE
 fb:dW K a.a9 "want_kind" "Reader.want_kind" wF ["self","kind"] a.mQ a.nG
 ke:dW K a.a9 "enter" "Reader.enter" uF ["self","text"] a.lx a.nj
 kO:dW K a.a9 "leave" "Reader.leave" wg ["self","text"] a.mP a.kW
 ip:dW K a.a9 "want_new_name" "Reader.want_new_name" yp ["self","kind"] a.mG a.kZ
 iF:dW K a.a9 "want_told_name" "Reader.want_told_name" ve ["self","kind"] a.mz a.nH
 ir:dW K a.a9 "want_standing_name" "Reader.want_standing_name" wM ["self","kind"] a.lG a.mh
 d5:mg "Fault"=some (.ref a.cR)/\vC K a.cR "__init__" a.kx/\dX K a.cR=true
 qv:gU K mg "ByteFault" a.pI a.cR a.kQ
 xu:gU K mg "NumberFault" a.jL a.cR a.kc
 rP:gU K mg "WantFault" a.p9 a.cR a.jD
 zx:gU K mg "UntoldFault" a.m3 a.cR a.ku
 mn:gU K mg "AgainFault" a.nB a.cR a.kh
 ji:gU K mg "BoundFault" a.nu a.cR a.j7
 zr:gU K mg "SumsFault" a.oK a.cR a.jG
 dC:OwnCls K mg "Stat" a.dG a.j6
 Kz:bw K a.dG "phrase"
 Ib:bw K a.dG "body"
 kN:OwnCls K mg "Listed" a.gK a.jA
 J7:bw K a.gK "phrases"
 uh:OwnCls K mg "Bracketed" a.iP a.kr
 IK:bw K a.iP "listed"
 jb:OwnCls K mg "Chain" a.c8 a.jX
 Ac:bw K a.c8 "level"
 JG:bw K a.c8 "first"
 xQ:bw K a.c8 "pairs"
 cu:OwnCls K mg "Names" a.bY a.kj
 sJ:bw K a.bY "told"
 uk:bw K a.bY "standing"
 tT:bw K a.bY "amounts"
 bo:OwnCls K mg "Token" a.bG a.j4
 j0:bw K a.bG "kind"
 bV:bw K a.bG "text"
 pw:bw K a.bG "number"
 gf:bw K a.bG "place"
 CW:bw K a.bG "after"
 bC:OwnCls K mg "Reader" a.a9 a.kz
 BI:bw K a.a9 "source"
 lV:bw K a.a9 "ahead"
 yB:bw K a.a9 "after"
 rn:bw K a.a9 "depth"
 fh:bw K a.a9 "names"
 HI:dw mg "SUM_LEVEL" 1
 ER:dw mg "PRODUCT_LEVEL" 2
 xE:eG mg "SIZES" "sizes"
 uH:eG mg "YARNS" "yarns"
 sj:eG mg "NUMBERS" "numbers"
 vo:eG mg "WORDS" "words"
 yx:eG mg "BLOCKS" "blocks"
 C8:eG mg "MARKERS" "markers"
 C2:eG mg "HOLDERS" "holders"
 Mm:mg "BOUNDS"=some (.ref a.jz)/\kC P w K a.jz [(.inr "sizes",.int 16),(.inr "yarns",.int 16),(.inr "numbers",.int 256),(.inr "words",.int 64),(.inr "blocks",.int 64),(.inr "markers",.int 64),(.inr "holders",.int 16)]
 Ah:eG mg "END" "end"
 jj:eG mg "NAME" "name"
 qW:eG mg "NUMBER" "number"
 uU:eG mg "FIXED" "fixed"
 J3:hW K mg "DIGIT_WORDS" ["k2tog","k3tog","p2tog","m1l","m1r"] a.kY
 ET:dw mg "LONGEST_DIGIT_WORD" 5
 DJ:hW K mg "PLAIN" ["k","p","ktbl","ptbl","yo","k2tog","k3tog","ssk","sssk","p2tog","ssp","cdd","kfb","pfb","kp","m1l","m1r","sl","slf","pso","even","co","bo"] a.lB
 Mq:hW K mg "OTHER_WORDS" ["pattern","sizes","yarns","let","word","block","on","round","row","rs","ws","repeat","until","work","off","to","end","last","mark","cl","cr","hold","take","yarn","pass","clear","turn","fasten"] a.lK
 Di:mg "SIGNS"=some (.ref a.jo)/\kC P w K a.jo [(.inl 40,.str "("),(.inl 41,.str ")"),(.inl 42,.str "*"),(.inl 43,.str "+"),(.inl 44,.str ","),(.inl 45,.str "-"),(.inl 47,.str "/"),(.inl 59,.str ";"),(.inl 61,.str "="),(.inl 91,.str "["),(.inl 93,.str "]"),(.inl 123,.str "{"),(.inl 125,.str "}")]
 Ha:eG mg "LETTERS" "abcdefghijklmnopqrstuvwxyz"
 G7:eG mg "DIGITS" "0123456789"
 D1:dw mg "LINE_END" 10
 IA:dw mg "BLANK" 32
 IY:dw mg "HASH" 35
 qX:dw mg "ZERO" 48
 IB:dw mg "NINE" 57
 zo:dw mg "UNDERSCORE" 95
 CQ:dw mg "LOWER_A" 97
 FK:dw mg "LOWER_Z" 122
 E2:dw mg "FIRST_BYTE" 32
 EY:dw mg "LAST_BYTE" 126
 BL:dw mg "LARGEST_NUMBER" 1048576
 L7:hW K mg "HEADS" ["sizes","yarns","let","word","block"] a.tG
 Hr:hW K mg "STATS" ["on","row","repeat","until","work","off"] a.qO
 Kq:hW K mg "LONES" ["take","yarn","mark","pass","clear","turn","fasten"] a.qZ
 LN:dw mg "LARGEST_CROSSING" 16
 Fd:dw mg "DEEPEST" 8
 CG:dw mg "LONGEST_TEXT" 16384
 JQ:PySem.W.specialIn K (.builtin "object.__class__") "__get__"=some (some (.builtin "getset_descriptor.__get__"))
 JW:PySem.W.takesIn K (.builtin "object.__class__")=some true
 EZ:rh K a.c8
 J6:PySem.W.kitOne K (.type "str") (.ref a.c8)=some false
 G2:PySem.W.kitOne K (.ref a.c8) (.ref a.c8)=some true
 gM:mg "len"=none
 KA:mg "min"=none
 KP:mg "isinstance"=none
 Jf:mg "str"=none
end Wale
end
section
set_option Elab.async false
set_option linter.all false
set_option maxRecDepth 100000
set_option maxHeartbeats 2000000
namespace Wale
open PySem PySem.Spec PyProof.Rows L2
section
variable {X:Cx}{x:Str}{pos p:Pos}
theorem cy{n:Int}(h:dw X.mg x n)(hg:Gl X x:=by rfl)(hd:(x==("__debug__":Str))=false:=by decide):PE X (.Name x pos) (tC (.int n)):=by
 obtain⟨t,e⟩:=h
 exact oE hg e ⟨t,rfl⟩ hd
theorem bB{n:Str}(h:eG X.mg x n)(hg:Gl X x:=by rfl)(hd:(x==("__debug__":Str))=false:=by decide):PE X (.Name x pos) (tC (.str n)):=by
 obtain⟨t,e⟩:=h
 exact oE hg e ⟨t,rfl⟩ hd
theorem aS{CX:dz}{k:Nat}{st:Stmt}{ps:List Str}{f:Addr}{fd:FuncData}{sp:Sp}{E:XK}{e:Expr}{es:List Expr}{t:TA}(D:bu X.K X.mg x st ps f fd)(G:aB X.prog X.w X.K X.mg X.base CX k f fd ps sp)(hr:bp k X.A)(hx:Passes CX X E)(ha:PA X (e::es) t)
  (hg:Gl X x:=by rfl) (hdb:(x==("__debug__":Str))=false:=by decide) (he:starEach (e::es) X.env=(false,eval e X.env)::starEach es X.env:=by rfl) (hpl:(backTo pos (starEach es X.env)).any (·.1)=false:=by rfl):
  PE X (.Call (.Name x p) (e::es) [] pos) (qp sp [] E t):=G5 G hr hg D.at_ D.fn.kp D.bd .nil hx ha hdb he hpl
end
variable {P:Program}{w:World}{K:PySem.W.Frag}{mg:Str->Option Value}{base:Heap}{a:Ad}
def MI(K:PySem.W.Frag)(a:Ad)(C:Addr):Prop:=dX K C=true/\o1 K C/\PySem.W.mroIn K C (.ref a.cR)=some true/\bw K C "kind"/\bw K C "place"
def Told(K:PySem.W.Frag)(a:Ad)(E:XK)(k n:Int):Prop:=∀(C d:Addr)(H':Hp),MI K a C->H' d=some (cZ d [("kind",.int k),("place",.int n)])->E (.ref C) (some d) H'
def Hm(K:PySem.W.Frag):Sp:=fun vs H Q _=>∃(lo:Nat)(x C fI:Addr)(k n:Int),vs=[.ref x,.int k,.int n]/\H x=some (cJ lo x C none)/\gq K C fI/\bw K C "kind"/\bw K C "place"/\
 ∀(H':Hp)(d:Addr),H' x=some (cJ lo x C (some d))->H' d=some (cZ d [("kind",.int k),("place",.int n)])->d≠x->Q .aw H'
def iz(K:PySem.W.Frag)(C:Addr)(k:Int):Sp:=fun vs H Q _=>∃(lo:Nat)(x fI:Addr)(n:Int),vs=[.ref x,.int n]/\H x=some (cJ lo x C none)/\gq K C fI/\bw K C "kind"/\bw K C "place"/\
 ∀(H':Hp)(d:Addr),H' x=some (cJ lo x C (some d))->H' d=some (cZ d [("kind",.int k),("place",.int n)])->d≠x->Q .aw H'
theorem KL:aI ["self","kind","place"] ["self","kind","place"] (aD wC):=⟨rfl,rfl,rfl,by decide +kernel,rfl,by decide +kernel,by decide +kernel⟩
theorem jH(T:Tx P w K mg a):aB P w K mg base bx 1 a.kx a.lE ["self","kind","place"] (Hm K):=by
 refine T.i6.1.ok KL (fun vs H Q E h=>?_) (fun cdv A outer s H vs Q E hr h=>?_)
 ·obtain⟨_,_,_,_,_,_,rfl,_⟩:=h;rfl
 obtain⟨lo,x,C,fI,k,n,rfl,hx,xc,nk,np,q⟩:=h
 refine⟨_,ai (Gk (pv 0) (pv 1) rfl) (ak (FG (pv 0) (pv 2) rfl)),?_⟩
 refine⟨_,rfl,_,rfl,lo,x,C,fI,rfl,hx,xc,nk,fun d hd hne=>?_⟩
 refine⟨_,rfl,_,rfl,lo,x,C,fI,d,_,rfl,az,(by rw[ao hne];exact az),hne,xc,np,(by show 1<1000;decide),?_⟩
 exact q _ d (by rw[ao (Ne.symm hne)];exact az) az hne
theorem Lh:aI ["self","place"] ["self","place"] (aD wW):=⟨rfl,rfl,rfl,by decide +kernel,rfl,by decide +kernel,by decide +kernel⟩
theorem Ca(T:Tx P w K mg a):aB P w K mg base bx 2 a.kQ a.mB ["self","place"] (iz K a.pI 1):=by
 refine T.yK.1.ok Lh (fun vs H Q E h=>?_) (fun cdv A outer s H vs Q E hr h=>?_)
 ·obtain⟨_,_,_,_,rfl,_⟩:=h;rfl
 obtain⟨lo,x,fI,n,rfl,hx,xc,nk,np,q⟩:=h
 refine⟨_,ak (a0 (jU rfl T.d5.1 T.d5.2.1 (jH T) hr T.i6.2 .nil a3 (ae (pv 0) (ae bN (ae (pv 1) ag))))),?_⟩
 exact⟨_,rfl,_,rfl,lo,x,_,fI,1,n,rfl,hx,xc,nk,np,fun H' d h1 h2 h3=>q H' d h1 h2 h3⟩
theorem Es:aI ["self","place"] ["self","place"] (aD uf):=⟨rfl,rfl,rfl,by decide +kernel,rfl,by decide +kernel,by decide +kernel⟩
theorem Ks(T:Tx P w K mg a):aB P w K mg base bx 2 a.kc a.lM ["self","place"] (iz K a.jL 2):=by
 refine T.Dq.1.ok Es (fun vs H Q E h=>?_) (fun cdv A outer s H vs Q E hr h=>?_)
 ·obtain⟨_,_,_,_,rfl,_⟩:=h;rfl
 obtain⟨lo,x,fI,n,rfl,hx,xc,nk,np,q⟩:=h
 refine⟨_,ak (a0 (jU rfl T.d5.1 T.d5.2.1 (jH T) hr T.i6.2 .nil a3 (ae (pv 0) (ae bN (ae (pv 1) ag))))),?_⟩
 exact⟨_,rfl,_,rfl,lo,x,_,fI,2,n,rfl,hx,xc,nk,np,fun H' d h1 h2 h3=>q H' d h1 h2 h3⟩
theorem GQ:aI ["self","place"] ["self","place"] (aD wJ):=⟨rfl,rfl,rfl,by decide +kernel,rfl,by decide +kernel,by decide +kernel⟩
theorem Du(T:Tx P w K mg a):aB P w K mg base bx 2 a.jD a.m4 ["self","place"] (iz K a.p9 3):=by
 refine T.yE.1.ok GQ (fun vs H Q E h=>?_) (fun cdv A outer s H vs Q E hr h=>?_)
 ·obtain⟨_,_,_,_,rfl,_⟩:=h;rfl
 obtain⟨lo,x,fI,n,rfl,hx,xc,nk,np,q⟩:=h
 refine⟨_,ak (a0 (jU rfl T.d5.1 T.d5.2.1 (jH T) hr T.i6.2 .nil a3 (ae (pv 0) (ae bN (ae (pv 1) ag))))),?_⟩
 exact⟨_,rfl,_,rfl,lo,x,_,fI,3,n,rfl,hx,xc,nk,np,fun H' d h1 h2 h3=>q H' d h1 h2 h3⟩
theorem G1:aI ["self","place"] ["self","place"] (aD vf):=⟨rfl,rfl,rfl,by decide +kernel,rfl,by decide +kernel,by decide +kernel⟩
theorem K6(T:Tx P w K mg a):aB P w K mg base bx 2 a.ku a.lR ["self","place"] (iz K a.m3 4):=by
 refine T.zZ.1.ok G1 (fun vs H Q E h=>?_) (fun cdv A outer s H vs Q E hr h=>?_)
 ·obtain⟨_,_,_,_,rfl,_⟩:=h;rfl
 obtain⟨lo,x,fI,n,rfl,hx,xc,nk,np,q⟩:=h
 refine⟨_,ak (a0 (jU rfl T.d5.1 T.d5.2.1 (jH T) hr T.i6.2 .nil a3 (ae (pv 0) (ae bN (ae (pv 1) ag))))),?_⟩
 exact⟨_,rfl,_,rfl,lo,x,_,fI,4,n,rfl,hx,xc,nk,np,fun H' d h1 h2 h3=>q H' d h1 h2 h3⟩
theorem ID:aI ["self","place"] ["self","place"] (aD uG):=⟨rfl,rfl,rfl,by decide +kernel,rfl,by decide +kernel,by decide +kernel⟩
theorem yk(T:Tx P w K mg a):aB P w K mg base bx 2 a.kh a.lA ["self","place"] (iz K a.nB 5):=by
 refine T.sh.1.ok ID (fun vs H Q E h=>?_) (fun cdv A outer s H vs Q E hr h=>?_)
 ·obtain⟨_,_,_,_,rfl,_⟩:=h;rfl
 obtain⟨lo,x,fI,n,rfl,hx,xc,nk,np,q⟩:=h
 refine⟨_,ak (a0 (jU rfl T.d5.1 T.d5.2.1 (jH T) hr T.i6.2 .nil a3 (ae (pv 0) (ae bN (ae (pv 1) ag))))),?_⟩
 exact⟨_,rfl,_,rfl,lo,x,_,fI,5,n,rfl,hx,xc,nk,np,fun H' d h1 h2 h3=>q H' d h1 h2 h3⟩
theorem FI:aI ["self","place"] ["self","place"] (aD vD):=⟨rfl,rfl,rfl,by decide +kernel,rfl,by decide +kernel,by decide +kernel⟩
theorem tf(T:Tx P w K mg a):aB P w K mg base bx 2 a.j7 a.lU ["self","place"] (iz K a.nu 6):=by
 refine T.qc.1.ok FI (fun vs H Q E h=>?_) (fun cdv A outer s H vs Q E hr h=>?_)
 ·obtain⟨_,_,_,_,rfl,_⟩:=h;rfl
 obtain⟨lo,x,fI,n,rfl,hx,xc,nk,np,q⟩:=h
 refine⟨_,ak (a0 (jU rfl T.d5.1 T.d5.2.1 (jH T) hr T.i6.2 .nil a3 (ae (pv 0) (ae bN (ae (pv 1) ag))))),?_⟩
 exact⟨_,rfl,_,rfl,lo,x,_,fI,6,n,rfl,hx,xc,nk,np,fun H' d h1 h2 h3=>q H' d h1 h2 h3⟩
theorem Lc:aI ["self","place"] ["self","place"] (aD vv):=⟨rfl,rfl,rfl,by decide +kernel,rfl,by decide +kernel,by decide +kernel⟩
theorem Ku(T:Tx P w K mg a):aB P w K mg base bx 2 a.jG a.lz ["self","place"] (iz K a.oK 7):=by
 refine T.DI.1.ok Lc (fun vs H Q E h=>?_) (fun cdv A outer s H vs Q E hr h=>?_)
 ·obtain⟨_,_,_,_,rfl,_⟩:=h;rfl
 obtain⟨lo,x,fI,n,rfl,hx,xc,nk,np,q⟩:=h
 refine⟨_,ak (a0 (jU rfl T.d5.1 T.d5.2.1 (jH T) hr T.i6.2 .nil a3 (ae (pv 0) (ae bN (ae (pv 1) ag))))),?_⟩
 exact⟨_,rfl,_,rfl,lo,x,_,fI,7,n,rfl,hx,xc,nk,np,fun H' d h1 h2 h3=>q H' d h1 h2 h3⟩
section
variable {X:Cx}{E:XK}{x:Str}{e:Expr}{te:TE}{p pos pos':Pos}{C f:Addr}{fd:FuncData}{k:Int}
theorem Kf{H:Hp}{x d:Addr}{o:HO}(h:H d=some o)(hne:d≠x):gx H x d=some o:=by rw[jM hne];exact h
def Flt(lo:Nat)(K:PySem.W.Frag)(C:Addr)(E:XK)(k:Int):List V->Hp->Prop:=fun vs H1=>vs.length<=sizeLine/\∀x,H1 x=none->iz K C k (.ref x::vs) (upd H1 x (cJ lo x C none))
 (fun v H2=>v=.aw/\∃a fI dx,V.ref x=.ref a/\H2 a=some (cJ lo a C (some dx))/\gq K C fI/\E (.ref C) (some dx) (gx H2 a)) E0
def k9(lo:Nat)(K:PySem.W.Frag)(C:Addr)(E:XK)(k:Int)(te:TE):TS:=fun _ σ H=>te σ H fun v H1=>Flt lo K C E k [v] H1
theorem eL(hc:X.calm=true)(hx:ye X E)(D:gU X.K X.mg x C a.cR f)(G:aB X.prog X.w X.K X.mg X.base bx 2 f fd ["self","place"] (iz X.K C k))(hb:Binds X.K fd ["self","place"] [])(hr:bp 3 X.A)(he:PE X e te)
  (hg:Gl X x:=by rfl) (hdb:(x==("__debug__":Str))=false:=by decide) (hst:starEach [e] X.env=[(false,eval e X.env)]:=by rfl):
  PS X (.Raise (some (.Call (.Name x p) [e] [] pos)) none pos') (k9 X.bX.heap.objs.size X.K C E k te):=fun pins s σ H Dn I h=>
 MP (C:=C) hc hx (Jh D.xc G hr hg D.at_ hb (ae he ag hst) hdb hst rfl) D.xc.is pins s σ H Dn I h
theorem d6{lo:Nat}{H1:Hp}{n:Int}(D:gU K mg x C a.cR f)(h:Told K a E k n):Flt lo K C E k [.int n] H1:=
 ⟨by show 1<=sizeLine;decide,fun y hy=>⟨lo,y,f,n,rfl,az,D.xc,D.nk,D.np,fun H' d h1 h2 h3=>⟨rfl,y,f,d,rfl,h1,D.xc,h C d _ ⟨D.xc.is,D.xg,D.sub,D.nk,D.np⟩ (Kf h2 h3)⟩⟩⟩
end
end Wale
end
section
set_option linter.all false
namespace Wm
open LsWale
theorem HX{c:UInt8}{r:Bytes}(h:isLetter c=true):1<=(wordAt (c::r)).length:=by
 unfold wordAt
 split
 ·rename_i w hw
  have hm:=List.mem_of_find?_eq_some hw
  simp only[DIGITWORDS,List.map_cons,List.map_nil,List.mem_cons,List.not_mem_nil,or_false]at hm
  rcases hm with rfl|rfl|rfl|rfl|rfl<;>decide
 ·simp[h]
theorem D8{b w:Bytes}(h:b.take w.length=w):w.length<=b.length:=by
 have:=congrArg List.length h
 rw[List.length_take]at this
 omega
theorem E3(b:Bytes):(wordAt b).length<=b.length:=by
 unfold wordAt
 split
 ·rename_i w hw
  have hp:=List.find?_some hw
  simp only[Bool.and_eq_true,beq_iff_eq]at hp
  exact D8 hp.1
 ·cases b with
  |nil=>simp
  |cons c r=>
   dsimp only
   split
   ·have:=(List.takeWhile_sublist (l:=r) isTail).length_le
    simp only[List.length_cons]
    omega
   ·simp
theorem uZ(b:Bytes):(oneToken b).2<=b.length:=by
 unfold oneToken
 split
 ·simp
 ·rename_i c r
  split
  ·exact E3 _
  ·split
   ·split
    ·exact(List.takeWhile_sublist _).length_le
    ·simp
   ·split<;>simp
def cv:Tok->Bool
 | .done=>false
 | .bad _=>false
 |_=>true
theorem one_pos{b:Bytes}(h:cv (oneToken b).1=true):1<=(oneToken b).2:=by
 cases b with
 |nil=>simp[oneToken,cv]at h
 |cons c r=>
  unfold oneToken at h ⊢
  dsimp only at h ⊢
  by_cases hl:isLetter c=true
  ·rw[if_pos hl]
   exact HX hl
  ·rw[if_neg hl]at h ⊢
   by_cases hd:isDigit c=true
   ·rw[if_pos hd]at h ⊢
    by_cases hn:isNumber ((c::r).takeWhile isDigit)=true
    ·rw[if_pos hn]
     simp[List.takeWhile_cons,hd]
    ·rw[if_neg hn]at h
     simp[cv]at h
   ·rw[if_neg hd]at h ⊢
    by_cases hs:SIGNS.contains c=true
    ·rw[if_pos hs]
     exact Nat.le_refl _
    ·rw[if_neg hs]at h
     simp[cv]at h
theorem lN:∀(f:Bool)(b:Bytes),blanks f b<=b.length
 |f,[]=>by cases f<;>simp[blanks]
 |false,c::r=>by
  have h1:=lN false r
  have h2:=lN true r
  simp only[blanks,List.length_cons]
  split
  ·omega
  ·split<;>omega
 |true,c::r=>by
  have h1:=lN false r
  have h2:=lN true r
  simp only[blanks,List.length_cons]
  split
  ·omega
  ·split<;>omega
def behind(t:Tok)(l:List Token):List Token:=match t with
 | .done=>[]
 | .bad _=>[]
 |_=>l
theorem uT(f p:Nat)(b:Bytes):tokensFrom (f+1) p b=⟨p+blanks false b,(oneToken (b.drop (blanks false b))).1⟩::
  behind (oneToken (b.drop (blanks false b))).1 (tokensFrom f (p+blanks false b+(oneToken (b.drop (blanks false b))).2) (b.drop (blanks false b+(oneToken (b.drop (blanks false b))).2))):=by
 rw[tokensFrom]
 cases (oneToken (b.drop (blanks false b))).1<;>rfl
theorem mC{t:Tok}{l:List Token}(h:cv t=true):behind t l=l:=by cases t<;>first|rfl|cases h
theorem lp{t:Tok}{l:List Token}(h:cv t=false):behind t l=[]:=by cases t<;>first|rfl|cases h
theorem DS:∀(f g p:Nat)(b:Bytes),b.length+1<=f->b.length+1<=g->tokensFrom f p b=tokensFrom g p b
 |0,g,p,b,h,_=>by omega
 |f+1,0,p,b,_,h=>by omega
 |f+1,g+1,p,b,h1,h2=>by
  rw[uT,uT]
  congr 1
  cases ht:cv (oneToken (b.drop (blanks false b))).1 with
  |false=>rw[lp ht,lp ht]
  |true=>
   rw[mC ht,mC ht]
   have hp:=one_pos ht
   have hl:=uZ (b.drop (blanks false b))
   have hb:=lN false b
   rw[List.length_drop]at hl
   exact DS f g _ _ (by rw[List.length_drop];omega) (by rw[List.length_drop];omega)
def toks(b:Bytes)(p:Nat):List Token:=tokensFrom ((b.drop p).length+1) p (b.drop p)
def aM(b:Bytes)(p:Nat):Nat:=p+blanks false (b.drop p)
def aj(b:Bytes)(p:Nat):Tok:=(oneToken (b.drop (aM b p))).1
def ay(b:Bytes)(p:Nat):Nat:=aM b p+(oneToken (b.drop (aM b p))).2
theorem Fn(b:Bytes):tokensOf b=toks b 0:=rfl
theorem tI(b:Bytes)(p:Nat):toks b p=⟨aM b p,aj b p⟩::behind (aj b p) (toks b (ay b p)):=by
 unfold toks
 rw[uT]
 have e:(b.drop p).drop (blanks false (b.drop p))=b.drop (aM b p):=by rw[List.drop_drop];rfl
 have e2:(b.drop p).drop (blanks false (b.drop p)+(oneToken (b.drop (aM b p))).2)=b.drop (ay b p):=by
  rw[List.drop_drop];unfold ay aM;rw[Nat.add_assoc]
 rw[e,e2]
 show _::behind (aj b p) _=_
 congr 1
 cases ht:cv (aj b p)with
 |false=>rw[lp ht,lp ht]
 |true=>
  rw[mC ht,mC ht]
  have hp:1<=(oneToken (b.drop (aM b p))).2:=one_pos ht
  have hl:=uZ (b.drop (aM b p))
  rw[List.length_drop]at hl
  refine DS _ _ _ _ ?_ (Nat.le_refl _)
  rw[List.length_drop,List.length_drop]
  unfold ay aM at *
  omega
theorem FT(b:Bytes)(p:Nat):p<=aM b p:=Nat.le_add_right _ _
theorem C1{b:Bytes}{p:Nat}(h:p<=b.length):aM b p<=b.length:=by
 have:=lN false (b.drop p)
 rw[List.length_drop]at this
 unfold aM
 omega
theorem vA{b:Bytes}{p:Nat}(h:p<=b.length):ay b p<=b.length:=by
 have h1:=C1 h
 have h2:=uZ (b.drop (aM b p))
 rw[List.length_drop]at h2
 unfold ay
 omega
theorem Ag{b:Bytes}{p:Nat}(h:cv (aj b p)=true):p<ay b p:=by
 have h1:=FT b p
 have h2:1<=(oneToken (b.drop (aM b p))).2:=one_pos h
 unfold ay
 omega
end Wm
end
section
set_option linter.all false
namespace Wm
open LsWale
def Lt{α:Type}(n:Nat)(r:Except Fault (α×St)):Prop:=∀x s,r=.ok (x,s)->s.ts.length<n
def Le{α:Type}(n:Nat)(r:Except Fault (α×St)):Prop:=∀x s,r=.ok (x,s)->s.ts.length<=n
theorem fX{α:Type}{n:Nat}{e:Fault}:Lt n (.error e:Except Fault (α×St)):=fun _ _ h=>by cases h
theorem FJ{α:Type}{n:Nat}{e:Fault}:Le n (.error e:Except Fault (α×St)):=fun _ _ h=>by cases h
theorem Lt.le{α:Type}{n:Nat}{r:Except Fault (α×St)}(h:Lt n r):Le n r:=fun x s e=>Nat.le_of_lt (h x s e)
theorem iV{α:Type}(s:St):∃e,(wanted s:Except Fault α)=.error e:=by
 unfold wanted
 split<;>exact⟨_,rfl⟩
theorem g9{α:Type}{n:Nat}{s:St}:Lt n (wanted s:Except Fault (α×St)):=by
 obtain⟨e,h⟩:=iV (α:=α×St) s
 rw[h];exact fX
theorem ee{ε α β:Type}(a:α)(f:α->Except ε β):(Except.ok a>>=f)=f a:=rfl
theorem Lt.bind{α β:Type}{n:Nat}{r:Except Fault (α×St)}{f:α×St->Except Fault (β×St)}(h:∀x s,r=.ok (x,s)->Lt n (f (x,s))):Lt n (r>>=f):=by
 cases r with
 |error e=>exact fX
 |ok p=>obtain⟨x,s⟩:=p;exact h x s rfl
theorem Le.bind{α β:Type}{n:Nat}{r:Except Fault (α×St)}{f:α×St->Except Fault (β×St)}(h:∀x s,r=.ok (x,s)->Le n (f (x,s))):Le n (r>>=f):=by
 cases r with
 |error e=>exact FJ
 |ok p=>obtain⟨x,s⟩:=p;exact h x s rfl
theorem aY{α β:Type}{r r':Except Fault (α×St)}{f g:α×St->Except Fault (β×St)}(h1:r=r')(h2:∀x s,r'=.ok (x,s)->f (x,s)=g (x,s)):(r>>=f)=(r'>>=g):=by
 subst h1
 cases r with
 |error e=>rfl
 |ok p=>obtain⟨x,s⟩:=p;exact h2 x s rfl
theorem D3(s:St):s.next.ts.length=s.ts.length-1:=by simp[St.next]
theorem aU{s:St}(h:s.ts≠[]):s.next.ts.length<s.ts.length:=by
 rw[D3]
 have:s.ts.length≠0:=fun q=>h (List.length_eq_zero_iff.mp q)
 omega
theorem bE{s:St}{w:String}(h:s.isWord w=true):s.ts≠[]:=by
 intro q;rw[St.isWord,q]at h;cases h
theorem eX{s:St}{c:Char}(h:s.isSign c=true):s.ts≠[]:=by
 intro q;rw[St.isSign,q]at h;cases h
def cK(n:Nat)(r:Except Fault St):Prop:=∀s,r=.ok s->s.ts.length<n
theorem dg{c:Char}{s:St}:cK s.ts.length (eatSign c s):=by
 intro t h
 unfold eatSign at h
 split at h
 ·rename_i hs;cases h;exact aU (eX hs)
 ·obtain⟨e,q⟩:=iV (α:=St) s;rw[q]at h;cases h
theorem AF{c:String}{s:St}:cK s.ts.length (eatWord c s):=by
 intro t h
 unfold eatWord at h
 split at h
 ·rename_i hs;cases h;exact aU (bE hs)
 ·obtain⟨e,q⟩:=iV (α:=St) s;rw[q]at h;cases h
theorem gE{c:Char}{d:Nat}{s:St}:cK s.ts.length (eatOpen c d s):=by
 intro t h
 unfold eatOpen at h
 split at h
 ·obtain⟨e,q⟩:=iV (α:=St) s;rw[q]at h;cases h
 ·rename_i hs
  split at h
  ·cases h
  ·cases h;exact aU (eX (by simpa using hs))
theorem oO{s:St}:Lt s.ts.length (anyName s):=by
 unfold anyName
 split
 ·rename_i h
  split
  ·intro x t e;cases e;exact aU (by rw[h];simp)
  ·exact g9
 ·exact g9
theorem lg{l:List Bytes}{s:St}:Lt s.ts.length (oldName l s):=by
 unfold oldName
 refine Lt.bind fun x t e=>?_
 have:=oO x t e
 dsimp only
 split
 ·exact fX
 ·intro y u h;cases h;exact this
theorem ib{k m:Nat}{s:St}{l:List Bytes}:Lt s.ts.length (newName k m s l):=by
 unfold newName
 refine Lt.bind fun x t e=>?_
 have:=oO x t e
 dsimp only
 split
 ·exact fX
 ·split
  ·exact fX
  ·intro y u h;cases h;exact this
theorem tW{s:St}:Lt s.ts.length (markName s):=by
 unfold markName
 refine Lt.bind fun x t e=>?_
 have:=oO x t e
 dsimp only
 split
 ·intro y u h;cases h;exact this
 ·split
  ·exact fX
  ·intro y u h;cases h;exact this
theorem DC{s:St}:Lt s.ts.length (holdName s):=by
 unfold holdName
 refine Lt.bind fun x t e=>?_
 have:=oO x t e
 dsimp only
 split
 ·intro y u h;cases h;exact this
 ·split
  ·exact fX
  ·intro y u h;cases h;exact this
end Wm
end
section
set_option linter.all false
namespace Wm
open LsWale
def HS:Level->Bool
 | .sumRest _=>true
 | .prodRest _=>true
 |_=>false
def Left(lv:Level)(n:Nat){α:Type}(r:Except Fault (α×St)):Prop:=if HS lv=true then Le n r else Lt n r
theorem Lt.left{α:Type}{lv:Level}{n:Nat}{r:Except Fault (α×St)}(h:Lt n r):Left lv n r:=by
 unfold Left
 split
 ·exact h.le
 ·exact h
theorem Le.mono{α:Type}{m n:Nat}{r:Except Fault (α×St)}(h:Le m r)(l:m<=n):Le n r:=fun x s e=>Nat.le_trans (h x s e) l
theorem Le.lt{α:Type}{m n:Nat}{r:Except Fault (α×St)}(h:Le m r)(l:m<n):Lt n r:=fun x s e=>Nat.lt_of_le_of_lt (h x s e) l
theorem Lt.mono{α:Type}{m n:Nat}{r:Except Fault (α×St)}(h:Lt m r)(l:m<=n):Lt n r:=fun x s e=>Nat.lt_of_lt_of_le (h x s e) l
theorem cK.bind{β:Type}{n:Nat}{r:Except Fault St}{f:St->Except Fault (β×St)}(h:∀s,r=.ok s->Lt n (f s)):Lt n (r>>=f):=by
 cases r with
 |error e=>exact fX
 |ok s=>exact h s rfl
theorem g0{α:Type}{n:Nat}{x:α}{s:St}(h:s.ts.length<=n):Le n (.ok (x,s)):=fun y t e=>by cases e;exact h
theorem cM{α:Type}{n:Nat}{x:α}{s:St}(h:s.ts.length<n):Lt n (.ok (x,s)):=fun y t e=>by cases e;exact h
theorem iR{s:St}{c c':Char}(h:(s.isSign c||s.isSign c')=true):s.ts≠[]:=by
 rcases Bool.or_eq_true_iff.mp h with q|q
 ·exact eX q
 ·exact eX q
theorem fH:∀(f:Nat)(lv:Level)(d:Nat)(s:St),Left lv s.ts.length (sumAt f lv d s)
 |0,lv,d,s=>by rw[sumAt];exact g9.left
 |f+1,.sum,d,s=>by
  rw[sumAt]
  refine Lt.left (Lt.bind fun x t e=>?_)
  have h1:Lt s.ts.length (sumAt f .prod d s):=fH f .prod d s
  have h2:Le t.ts.length (sumAt f (.sumRest x) d t):=fH f (.sumRest x) d t
  exact h2.lt (h1 x t e)
 |f+1,.prod,d,s=>by
  rw[sumAt]
  refine Lt.left (Lt.bind fun x t e=>?_)
  have h1:Lt s.ts.length (sumAt f .fact d s):=fH f .fact d s
  have h2:Le t.ts.length (sumAt f (.prodRest x) d t):=fH f (.prodRest x) d t
  exact h2.lt (h1 x t e)
 |f+1,.sumRest a,d,s=>by
  rw[sumAt]
  show Le _ _
  split
  ·rename_i h
   refine Le.bind fun x t e=>?_
   have h0:=aU (iR h)
   have h1:Lt s.next.ts.length (sumAt f .prod d s.next):=fH f .prod d s.next
   refine Le.mono (fH f (.sumRest _) d t) ?_
   have:=h1 x t e
   show t.ts.length<=_
   omega
  ·exact g0 (Nat.le_refl _)
 |f+1,.prodRest a,d,s=>by
  rw[sumAt]
  show Le _ _
  split
  ·rename_i h
   refine Le.bind fun x t e=>?_
   have h0:=aU (iR h)
   have h1:Lt s.next.ts.length (sumAt f .fact d s.next):=fH f .fact d s.next
   refine Le.mono (fH f (.prodRest _) d t) ?_
   have:=h1 x t e
   show t.ts.length<=_
   omega
  ·exact g0 (Nat.le_refl _)
 |f+1,.fact,d,s=>by
  rw[sumAt]
  show Lt _ _
  split
  ·rename_i h;exact cM (aU (by rw[h];simp))
  ·rename_i h
   refine Lt.bind fun x t e=>?_
   exact cM (lg x t e)
  ·refine cK.bind fun t e=>?_
   have h0:=gE t e
   refine Lt.bind fun x u e1=>?_
   have h1:Lt t.ts.length (sumAt f .sum (d+1) t):=fH f .sum (d+1) t
   have h1:=h1 x u e1
   refine cK.bind fun v e2=>?_
   have h2:=dg v e2
   refine cM ?_
   dsimp only at h2 ⊢
   omega
theorem g4(f d:Nat)(s:St):Lt s.ts.length (sumAt f .sum d s):=fH f .sum d s
theorem tZ(f d:Nat)(s:St):Lt s.ts.length (sumAt f .prod d s):=fH f .prod d s
theorem sS(f d:Nat)(s:St):Lt s.ts.length (sumAt f .fact d s):=fH f .fact d s
def a5:Level->Nat->Nat
 | .sum,n=>3*n+3
 | .prod,n=>3*n+2
 |_,n=>3*n+1
theorem f7{β:Type}{r:Except Fault St}{f g:St->Except Fault (β×St)}(h:∀s,r=.ok s->f s=g s):(r>>=f)=(r>>=g):=by
 cases r with
 |error e=>rfl
 |ok s=>exact h s rfl
theorem eT:∀(f g:Nat)(lv:Level)(d:Nat)(s:St),a5 lv s.ts.length<=f->a5 lv s.ts.length<=g->sumAt f lv d s=sumAt g lv d s
 |0,_,lv,d,s,h,_=>by cases lv<;>simp[a5]at h
 |f+1,0,lv,d,s,_,h=>by cases lv<;>simp[a5]at h
 |f+1,g+1,.sum,d,s,h1,h2=>by
  rw[sumAt,sumAt]
  simp only[a5]at h1 h2
  refine aY (eT f g .prod d s (by simp only[a5];omega) (by simp only[a5];omega)) fun x t e=>?_
  have:=tZ g d s x t e
  exact eT f g _ d t (by simp only[a5];omega) (by simp only[a5];omega)
 |f+1,g+1,.prod,d,s,h1,h2=>by
  rw[sumAt,sumAt]
  simp only[a5]at h1 h2
  refine aY (eT f g .fact d s (by simp only[a5];omega) (by simp only[a5];omega)) fun x t e=>?_
  have:=sS g d s x t e
  exact eT f g _ d t (by simp only[a5];omega) (by simp only[a5];omega)
 |f+1,g+1,.sumRest a,d,s,h1,h2=>by
  rw[sumAt,sumAt]
  simp only[a5]at h1 h2
  split
  ·rename_i h
   have h0:=aU (iR h)
   refine aY (eT f g .prod d s.next (by simp only[a5];omega) (by simp only[a5];omega)) fun x t e=>?_
   have:=tZ g d s.next x t e
   exact eT f g _ d t (by simp only[a5];omega) (by simp only[a5];omega)
  ·rfl
 |f+1,g+1,.prodRest a,d,s,h1,h2=>by
  rw[sumAt,sumAt]
  simp only[a5]at h1 h2
  split
  ·rename_i h
   have h0:=aU (iR h)
   refine aY (eT f g .fact d s.next (by simp only[a5];omega) (by simp only[a5];omega)) fun x t e=>?_
   have:=sS g d s.next x t e
   exact eT f g _ d t (by simp only[a5];omega) (by simp only[a5];omega)
  ·rfl
 |f+1,g+1,.fact,d,s,h1,h2=>by
  rw[sumAt,sumAt]
  simp only[a5]at h1 h2
  split
  ·rfl
  ·rfl
  ·refine f7 fun t e=>?_
   have h0:=gE t e
   exact aY (eT f g .sum (d+1) t (by simp only[a5];omega) (by simp only[a5];omega)) fun x u e1=>rfl
def a6(lv:Level)(d:Nat)(s:St):Except Fault (Sum×St):=sumAt (3*s.ts.length+3) lv d s
theorem JB(lv:Level)(n:Nat):a5 lv n<=3*n+3:=by cases lv<;>simp[a5]
theorem fq{f d:Nat}{lv:Level}{s:St}(h:a5 lv s.ts.length<=f):sumAt f lv d s=a6 lv d s:=eT _ _ _ _ _ h (JB _ _)
theorem xY(d:Nat)(s:St):Lt s.ts.length (a6 .sum d s):=g4 _ d s
theorem Ge(d:Nat)(s:St):a6 .sum d s=a6 .prod d s>>=fun x=>a6 (.sumRest x.1) d x.2:=by
 show sumAt (3*s.ts.length+3) .sum d s=_
 rw[sumAt]
 refine aY (fq (by simp only[a5];omega)) fun x t e=>?_
 have:=tZ _ d s x t e
 exact fq (by simp only[a5];omega)
theorem Lw(d:Nat)(s:St):a6 .prod d s=a6 .fact d s>>=fun x=>a6 (.prodRest x.1) d x.2:=by
 show sumAt (3*s.ts.length+3) .prod d s=_
 rw[sumAt]
 refine aY (fq (by simp only[a5];omega)) fun x t e=>?_
 have:=sS _ d s x t e
 exact fq (by simp only[a5];omega)
theorem BM(a:Sum)(d:Nat)(s:St):a6 (.sumRest a) d s=if(s.isSign '+'||s.isSign '-')=true then
  (a6 .prod d s.next>>=fun x=>a6 (.sumRest (.op (if s.isSign '+'=true then 43 else 45) s.place a x.1)) d x.2)else .ok (a,s):=by
 show sumAt (3*s.ts.length+3) (.sumRest a) d s=_
 rw[sumAt]
 split
 ·rename_i h
  have h0:=aU (iR h)
  refine aY (fq (by simp only[a5];omega)) fun x t e=>?_
  have:=tZ _ d s.next x t e
  exact fq (by simp only[a5];omega)
 ·rfl
theorem Cj(a:Sum)(d:Nat)(s:St):a6 (.prodRest a) d s=if(s.isSign '*'||s.isSign '/')=true then
  (a6 .fact d s.next>>=fun x=>a6 (.prodRest (.op (if s.isSign '*'=true then 42 else 47) s.place a x.1)) d x.2)else .ok (a,s):=by
 show sumAt (3*s.ts.length+3) (.prodRest a) d s=_
 rw[sumAt]
 split
 ·rename_i h
  have h0:=aU (iR h)
  refine aY (fq (by simp only[a5];omega)) fun x t e=>?_
  have:=sS _ d s.next x t e
  exact fq (by simp only[a5];omega)
 ·rfl
theorem Hu{d p n:Nat}{s:St}{r:List Token}(h:s.ts=⟨p,.num n⟩::r):a6 .fact d s=.ok (.num n,s.next):=by
 show sumAt (3*s.ts.length+3) .fact d s=_
 rw[sumAt]
 split
 ·rename_i q;rw[h]at q;cases q;rfl
 ·rename_i q;rw[h]at q;cases q
 ·rename_i q _;exact absurd h (q p n r)
theorem AD{d p:Nat}{w:Bytes}{s:St}{r:List Token}(h:s.ts=⟨p,.word w⟩::r):a6 .fact d s=oldName s.env.lets s>>=fun x=>.ok (.name p x.1,x.2):=by
 show sumAt (3*s.ts.length+3) .fact d s=_
 rw[sumAt]
 split
 ·rename_i q;rw[h]at q;cases q
 ·rename_i q;rw[h]at q;cases q;rfl
 ·rename_i q;exact absurd h (q p w r)
theorem DQ{d:Nat}{s:St}(h1:∀p n r,s.ts≠⟨p,.num n⟩::r)(h2:∀p w r,s.ts≠⟨p,.word w⟩::r):
  a6 .fact d s=eatOpen '(' d s>>=fun t=>a6 .sum (d+1) t>>=fun x=>eatSign ')' x.2>>=fun u=>.ok (x.1,u):=by
 show sumAt (3*s.ts.length+3) .fact d s=_
 rw[sumAt]
 split
 ·rename_i q;exact absurd q (h1 _ _ _)
 ·rename_i q;exact absurd q (h2 _ _ _)
 ·refine f7 fun t e=>?_
  have h0:=gE t e
  exact aY (fq (by simp only[a5];omega)) fun x u e1=>rfl
end Wm
end
section
set_option linter.all false
namespace Wm
open LsWale
theorem Dj{α β:Type}{r:Except Fault α}{f:α->β}{y:β}(h:r.map f=.ok y):∃x,r=.ok x/\f x=y:=by
 cases r with
 |error e=>cases h
 |ok x=>cases h;exact⟨x,rfl,rfl⟩
theorem Lt.map{α β:Type}{n:Nat}{r:Except Fault (α×St)}{f:α×St->β×St}(h:Lt n r)(hf:∀x s,(f (x,s)).2=s):Lt n (r.map f):=by
 intro y t e
 obtain⟨⟨x,s⟩,e1,e2⟩:=Dj e
 have:=h x s e1
 have q:=hf x s
 rw[e2]at q
 simp only at q
 rw[q];exact this
theorem vg(f d:Nat)(s:St):Le s.ts.length (reachAt f d s):=by
 unfold reachAt
 split
 ·rename_i h
  have h0:=aU (bE h)
  split
  ·rename_i h1
   have h2:=aU (bE h1)
   exact g0 (by omega)
  ·split
   ·rename_i h1
    have h2:=aU (bE h1)
    refine Le.bind fun x t e=>g0 ?_
    have:=g4 f d _ x t e
    dsimp only;omega
   ·refine(cK.bind (n:=s.ts.length) fun t e=>?_).le
    have h1:=AF t e
    refine Lt.bind fun x u e2=>cM ?_
    have:=tW x u e2
    dsimp only;omega
 ·split
  ·refine Le.bind fun x t e=>g0 ?_
   have:=g4 f d _ x t e
   dsimp only;omega
  ·exact g0 (Nat.le_refl _)
theorem zu{f g d:Nat}{s:St}(h1:3*s.ts.length+3<=f)(h2:3*s.ts.length+3<=g):reachAt f d s=reachAt g d s:=by
 unfold reachAt
 split
 ·rename_i h
  have h0:=aU (bE h)
  split
  ·rfl
  ·split
   ·rename_i h3
    have h4:=aU (bE h3)
    exact aY (eT _ _ _ _ _ (by simp only[a5];omega) (by simp only[a5];omega)) fun _ _ _=>rfl
   ·rfl
 ·split
  ·exact aY (eT _ _ _ _ _ (by simp only[a5];omega) (by simp only[a5];omega)) fun _ _ _=>rfl
  ·rfl
def iZ(d:Nat)(s:St):Except Fault (Reach×St):=reachAt (3*s.ts.length+3) d s
theorem GY{f d:Nat}{s:St}(h:3*s.ts.length+3<=f):reachAt f d s=iZ d s:=zu h (Nat.le_refl _)
theorem tu(d:Nat)(s:St):iZ d s=if s.isWord "to"=true then(
  if s.next.isWord "end"=true then .ok (.to_ .row,s.next.next)
  else if s.next.isWord "last"=true then(a6 .sum d s.next.next>>=fun x=>.ok (.to_ (.last x.1),x.2))
  else(eatWord "mark" s.next>>=fun t=>markName t>>=fun x=>.ok (.to_ (.mark x.1),x.2)))
 else if s.sums=true then(a6 .sum d s>>=fun x=>.ok (.times x.1,x.2))
 else .ok (.once,s):=by
 unfold iZ reachAt
 split
 ·rename_i h
  have h0:=aU (bE h)
  split
  ·rfl
  ·split
   ·rename_i h3
    have h4:=aU (bE h3)
    exact aY (fq (by simp only[a5];omega)) fun _ _ _=>rfl
   ·rfl
 ·split
  ·exact aY (fq (by simp only[a5];omega)) fun _ _ _=>rfl
  ·rfl
theorem BF{s:St}:Lt s.ts.length (wideAt s):=by
 unfold wideAt
 split
 ·rename_i h
  split
  ·exact cM (aU (by rw[h];simp))
  ·exact fX
 ·exact g9
theorem zt(s:St):Lt s.ts.length (unitAt s):=by
 unfold unitAt
 split
 ·rename_i h
  have h0:s.next.ts.length<s.ts.length:=aU (by rw[h];simp)
  split
  ·exact cM h0
  ·split
   ·refine Lt.bind fun n t e=>?_
    have h1:=BF n t e
    refine cK.bind fun u e1=>?_
    have h2:=dg u e1
    refine Lt.bind fun m v e2=>cM ?_
    have h3:=BF m v e2
    dsimp only at h2 ⊢
    omega
   ·split
    ·refine Lt.bind fun x t e=>cM ?_
     have:=DC x t e
     dsimp only;omega
    ·refine Lt.bind fun x t e=>cM ?_
     exact lg x t e
 ·exact g9
theorem LL{s:St}{g:Except Fault (Lone×St)}(h:loneAt s=some g):Lt s.ts.length g:=by
 unfold loneAt at h
 split at h
 ·rename_i w;have h0:=aU (bE w)
  cases h;exact(DC.mono (Nat.le_of_lt h0)).map fun _ _=>rfl
 ·split at h
  ·rename_i w;have h0:=aU (bE w)
   cases h;exact(lg.mono (Nat.le_of_lt h0)).map fun _ _=>rfl
  ·split at h
   ·rename_i w;have h0:=aU (bE w)
    cases h;exact(tW.mono (Nat.le_of_lt h0)).map fun _ _=>rfl
   ·split at h
    ·rename_i w;have h0:=aU (bE w)
     cases h;exact(tW.mono (Nat.le_of_lt h0)).map fun _ _=>rfl
    ·split at h
     ·rename_i w;have h0:=aU (bE w)
      cases h;exact(tW.mono (Nat.le_of_lt h0)).map fun _ _=>rfl
     ·split at h
      ·rename_i w;have h0:=aU (bE w)
       cases h;exact cM h0
      ·split at h
       ·rename_i w;have h0:=aU (bE w)
        cases h;exact cM h0
       ·cases h
def fN(I:Nat->St->Except Fault (Items×St))(R:Nat->St->Except Fault (Reach×St))(d:Nat)(s:St):Except Fault ((Items->Items)×St):=
 match loneAt s with
 |some g=>g.map fun(y:Lone×St)=>(Items.lone s.place y.1,y.2)
 |none=>if s.isSign '('=true then
   (eatOpen '(' d s>>=fun t=>I (d+1) t>>=fun l=>eatSign ')' l.2>>=fun u=>R d u>>=fun r=>.ok (Items.group s.place l.1 r.1,r.2))
  else(unitAt s>>=fun u=>R d u.2>>=fun r=>.ok (Items.one s.place u.1 r.1,r.2))
def uK(T:Nat->St->Except Fault ((Items->Items)×St))(I:Nat->St->Except Fault (Items×St))(d:Nat)(s:St):Except Fault (Items×St):=
 T d s>>=fun x=>if x.2.isSign ','=true then(I d x.2.next>>=fun l=>.ok (x.1 l.1,l.2))else .ok (x.1 .nil,x.2)
theorem o8(f d:Nat)(s:St):itemsAt (f+1) d s=uK (fN (itemsAt f) (reachAt f)) (itemsAt f) d s:=by
 rw[itemsAt];rfl
theorem yb{I:Nat->St->Except Fault (Items×St)}{R:Nat->St->Except Fault (Reach×St)}(hI:∀d s,Le s.ts.length (I d s))(hR:∀d s,Le s.ts.length (R d s))(d:Nat)(s:St):Lt s.ts.length (fN I R d s):=by
 unfold fN
 split
 ·rename_i g h;exact(LL h).map fun _ _=>rfl
 ·split
  ·refine cK.bind fun t e=>?_
   have h1:=gE t e
   refine Lt.bind fun l u e1=>?_
   have h2:=hI _ t l u e1
   refine cK.bind fun v e2=>?_
   have h3:=dg v e2
   refine Lt.bind fun r z e3=>cM ?_
   have h4:=hR _ v r z e3
   dsimp only at h3 ⊢
   omega
  ·refine Lt.bind fun u t e=>?_
   have h1:=zt s u t e
   refine Lt.bind fun r z e3=>cM ?_
   have h4:=hR _ t r z e3
   dsimp only
   omega
theorem iw:∀(f d:Nat)(s:St),Lt s.ts.length (itemsAt f d s)
 |0,d,s=>by rw[itemsAt];exact g9
 |f+1,d,s=>by
  rw[o8]
  refine Lt.bind fun x t e=>?_
  have h1:=yb (fun d s=>(iw f d s).le) (fun d s=>vg f d s) d s x t e
  dsimp only
  split
  ·rename_i h
   have h0:=aU (eX h)
   refine Lt.bind fun l u e1=>cM ?_
   have:=iw f d _ l u e1
   dsimp only at this ⊢;omega
  ·exact cM h1
theorem Am{I I':Nat->St->Except Fault (Items×St)}{R R':Nat->St->Except Fault (Reach×St)}{d:Nat}{s:St}
  (hI:∀d t,t.ts.length<s.ts.length->I d t=I' d t) (hL:∀d t,Le t.ts.length (I' d t)) (hR:∀d t,t.ts.length<s.ts.length->R d t=R' d t):fN I R d s=fN I' R' d s:=by
 unfold fN
 split
 ·rfl
 ·split
  ·refine f7 fun t e=>?_
   have h1:=gE t e
   refine aY (hI _ _ h1) fun l u e1=>?_
   have h2:=hL _ t l u e1
   refine f7 fun v e2=>?_
   have h3:=dg v e2
   dsimp only at h3
   exact aY (hR _ _ (by omega)) fun _ _ _=>rfl
  ·refine aY rfl fun u t e=>?_
   exact aY (hR _ _ (zt s u t e)) fun _ _ _=>rfl
theorem oH:∀(f g d:Nat)(s:St),3*s.ts.length+1<=f->3*s.ts.length+1<=g->itemsAt f d s=itemsAt g d s
 |0,_,_,_,h,_=>by omega
 |_+1,0,_,_,_,h=>by omega
 |f+1,g+1,d,s,h1,h2=>by
  rw[o8,o8]
  unfold uK
  refine aY (Am (fun d t ht=>oH f g d t (by omega) (by omega)) (fun d t=>(iw g d t).le) fun d t ht=>zu (by omega) (by omega)) fun x t e=>?_
  have h3:=yb (fun d s=>(iw g d s).le) (fun d s=>vg g d s) d s x t e
  dsimp only
  split
  ·rename_i h
   have h0:=aU (eX h)
   exact aY (oH f g d _ (by omega) (by omega)) fun _ _ _=>rfl
  ·rfl
def cw(d:Nat)(s:St):Except Fault (Items×St):=itemsAt (3*s.ts.length+1) d s
theorem rY{f d:Nat}{s:St}(h:3*s.ts.length+1<=f):itemsAt f d s=cw d s:=oH _ _ _ _ h (Nat.le_refl _)
theorem qS(d:Nat)(s:St):Lt s.ts.length (cw d s):=iw _ d s
def eZ(d:Nat)(s:St):Except Fault ((Items->Items)×St):=fN cw iZ d s
theorem uL(d:Nat)(s:St):Lt s.ts.length (eZ d s):=yb (fun d s=>(qS d s).le) (fun d s=>vg _ d s) d s
theorem ue(d:Nat)(s:St):cw d s=eZ d s>>=fun x=>if x.2.isSign ','=true then(cw d x.2.next>>=fun l=>.ok (x.1 l.1,l.2))else .ok (x.1 .nil,x.2):=by
 show itemsAt (3*s.ts.length+1) d s=_
 rw[o8]
 unfold uK
 refine aY (Am (fun d t ht=>rY (by omega)) (fun d t=>(qS d t).le) fun d t ht=>GY (by omega)) fun x t e=>?_
 have h3:=uL d s x t e
 dsimp only
 split
 ·rename_i h
  have h0:=aU (eX h)
  exact aY (rY (by omega)) fun _ _ _=>rfl
 ·rfl
end Wm
end
section
set_option linter.all false
namespace Wm
open LsWale
def mq(s:St):Option Bool:=if s.next.isWord "rs"=true then some true else if s.next.isWord "ws"=true then some false else none
def rowAt(s:St):St:=if(mq s).isSome=true then s.next.next else s.next
theorem Br(s:St):(rowAt s).ts.length<=s.next.ts.length:=by
 unfold rowAt
 split
 ·rw[D3 s.next];omega
 ·exact Nat.le_refl _
def eR(S:Nat->St->Except Fault (Sum×St))(I:Nat->St->Except Fault (Items×St))(T:Nat->St->Except Fault (Stats×St))(d:Nat)(s:St):Option (Except Fault ((Stats->Stats)×St)):=
 if s.isWord "on"=true then some
  (S d s.next>>=fun x=>eatSign ';' (if x.2.isWord "round"=true then x.2.next else x.2)>>=fun t=>.ok (.on s.place x.1 (x.2.isWord "round"),t))
 else if s.isWord "row"=true then some
  (I d (rowAt s)>>=fun x=>eatSign ';' x.2>>=fun t=>.ok (.row s.place (mq s) x.1,t))
 else if(s.isWord "repeat"||s.isWord "until")=true then some
  (S d s.next>>=fun x=>eatOpen '{' d x.2>>=fun t=>T (d+1) t>>=fun i=>eatSign '}' i.2>>=fun u=>
   .ok (fun r=>if s.isWord "repeat"=true then .again s.place x.1 i.1 r else .until_ s.place x.1 i.1 r,u))
 else if s.isWord "work"=true then some
  (oldName s.env.blocks s.next>>=fun x=>if x.2.sums=true then(S d x.2>>=fun y=>eatSign ';' y.2>>=fun t=>.ok (.work s.place x.1 (some y.1),t))
   else(eatSign ';' x.2>>=fun t=>.ok (.work s.place x.1 none,t)))
 else if s.isWord "off"=true then some (eatSign ';' s.next>>=fun t=>.ok (.off s.place,t))
 else none
def lJ(U:Nat->St->Option (Except Fault ((Stats->Stats)×St)))(T:Nat->St->Except Fault (Stats×St))(d:Nat)(s:St):Except Fault (Stats×St):=
 match U d s with
 |some g=>g>>=fun x=>T d x.2>>=fun r=>.ok (x.1 r.1,r.2)
 |none=>.ok (.nil,s)
theorem bL{α β γ:Type}(r:Except Fault α)(f:α->Except Fault β)(g:β->Except Fault γ):(r>>=f)>>=g=r>>=fun x=>f x>>=g:=by
 cases r<;>rfl
theorem pW(f d:Nat)(s:St):statsAt (f+1) d s=lJ (eR (sumAt f .sum) (itemsAt f) (statsAt f)) (statsAt f) d s:=by
 rw[statsAt]
 unfold lJ eR
 dsimp only
 split
 ·simp only[bL,ee];rfl
 ·split
  ·simp only[bL,ee];rfl
  ·split
   ·simp only[bL,ee]
    refine aY rfl fun x t e=>?_
    refine f7 fun u e=>?_
    refine aY rfl fun y t e=>?_
    refine f7 fun v e=>?_
    refine aY rfl fun z t e=>?_
    split<;>rfl
   ·split
    ·simp only[bL,ee]
     refine aY rfl fun x t e=>?_
     dsimp only
     split
     ·simp only[bL,ee];rfl
     ·simp only[bL,ee];rfl
    ·split
     ·simp only[bL,ee];rfl
     ·rfl
theorem wx{S:Nat->St->Except Fault (Sum×St)}{I:Nat->St->Except Fault (Items×St)}{T:Nat->St->Except Fault (Stats×St)}(hS:∀d s,Le s.ts.length (S d s))(hI:∀d s,Le s.ts.length (I d s))
  (hT:∀d s,Le s.ts.length (T d s)) {d:Nat} {s:St} {g:Except Fault ((Stats->Stats)×St)} (h:eR S I T d s=some g):Lt s.ts.length g:=by
 unfold eR at h
 split at h
 ·rename_i w;have h0:=aU (bE w)
  cases h
  refine Lt.bind fun x t e=>cK.bind fun u e2=>cM ?_
  have h1:=hS _ _ x t e
  have h2:=dg u e2
  dsimp only at h2
  split at h2
  ·rename_i q;have:=aU (bE q);omega
  ·omega
 ·split at h
  ·rename_i w;have h0:=aU (bE w)
   cases h
   refine Lt.bind fun x t e=>cK.bind fun u e2=>cM ?_
   have h1:=hI _ _ x t e
   have h2:=dg u e2
   dsimp only at h2
   have h3:=Br s
   omega
  ·split at h
   ·rename_i w
    have h0:s.next.ts.length<s.ts.length:=by
     rcases Bool.or_eq_true_iff.mp w with q|q
     ·exact aU (bE q)
     ·exact aU (bE q)
    cases h
    refine Lt.bind fun x t e=>cK.bind fun u e2=>Lt.bind fun i v e3=>cK.bind fun z e4=>cM ?_
    have h1:=hS _ _ x t e
    have h2:=gE u e2
    have h3:=hT _ _ i v e3
    have h4:=dg z e4
    dsimp only at h2 h4
    omega
   ·split at h
    ·rename_i w;have h0:=aU (bE w)
     cases h
     refine Lt.bind fun x t e=>?_
     have h1:=lg x t e
     dsimp only
     split
     ·refine Lt.bind fun y u e2=>cK.bind fun v e3=>cM ?_
      have h2:=hS _ _ y u e2
      have h3:=dg v e3
      dsimp only at h3
      omega
     ·refine cK.bind fun v e3=>cM ?_
      have h3:=dg v e3
      omega
    ·split at h
     ·rename_i w;have h0:=aU (bE w)
      cases h
      refine cK.bind fun v e3=>cM ?_
      have h3:=dg v e3
      omega
     ·cases h
theorem nc:∀(f d:Nat)(s:St),Le s.ts.length (statsAt f d s)
 |0,d,s=>by rw[statsAt];exact g9.le
 |f+1,d,s=>by
  rw[pW]
  unfold lJ
  split
  ·rename_i g h
   refine Le.bind fun x t e=>Le.bind fun r u e2=>g0 ?_
   have h1:=wx (fun d s=>(g4 f d s).le) (fun d s=>(iw f d s).le) (fun d s=>nc f d s) h x t e
   have h2:=nc f d t r u e2
   dsimp only
   omega
  ·exact g0 (Nat.le_refl _)
theorem Bj{S S':Nat->St->Except Fault (Sum×St)}{I I':Nat->St->Except Fault (Items×St)}{T T':Nat->St->Except Fault (Stats×St)}{d:Nat}{s:St}
  (hS:∀d t,t.ts.length<s.ts.length->S d t=S' d t) (hI:∀d t,t.ts.length<s.ts.length->I d t=I' d t) (hT:∀d t,t.ts.length<s.ts.length->T d t=T' d t)
  (lS:∀d s,Le s.ts.length (S' d s)):eR S I T d s=eR S' I' T' d s:=by
 unfold eR
 split
 ·rename_i w;have h0:=aU (bE w)
  rw[hS _ _ h0]
 ·split
  ·rename_i w;have h0:=aU (bE w)
   have h3:=Br s
   rw[hI _ _ (by omega)]
  ·split
   ·rename_i w
    have h0:s.next.ts.length<s.ts.length:=by
     rcases Bool.or_eq_true_iff.mp w with q|q
     ·exact aU (bE q)
     ·exact aU (bE q)
    refine congrArg some (aY (hS _ _ h0) fun x t e=>f7 fun u e2=>?_)
    have h1:=lS _ _ x t e
    have h2:=gE u e2
    dsimp only at h2
    exact aY (hT _ _ (by omega)) fun _ _ _=>rfl
   ·split
    ·rename_i w;have h0:=aU (bE w)
     refine congrArg some (aY rfl fun x t e=>?_)
     have h1:=lg x t e
     dsimp only
     split
     ·exact aY (hS _ _ (by omega)) fun _ _ _=>rfl
     ·rfl
    ·rfl
theorem sQ:∀(f g d:Nat)(s:St),3*s.ts.length+1<=f->3*s.ts.length+1<=g->statsAt f d s=statsAt g d s
 |0,_,_,_,h,_=>by omega
 |_+1,0,_,_,_,h=>by omega
 |f+1,g+1,d,s,h1,h2=>by
  rw[pW,pW]
  unfold lJ
  rw[Bj (S':=sumAt g .sum) (I':=itemsAt g) (T':=statsAt g) (fun d t ht=>eT f g _ d t (by simp only[a5];omega) (by simp only[a5];omega)) (fun d t ht=>oH f g d t (by omega) (by omega))
   (fun d t ht=>sQ f g d t (by omega) (by omega)) fun d s=>(g4 g d s).le]
  split
  ·rename_i q h
   refine aY rfl fun x t e=>?_
   have h3:=wx (fun d s=>(g4 g d s).le) (fun d s=>(iw g d s).le) (fun d s=>nc g d s) h x t e
   exact aY (sQ f g d t (by omega) (by omega)) fun _ _ _=>rfl
  ·rfl
def cD(d:Nat)(s:St):Except Fault (Stats×St):=statsAt (3*s.ts.length+1) d s
theorem q0{f d:Nat}{s:St}(h:3*s.ts.length+1<=f):statsAt f d s=cD d s:=sQ _ _ _ _ h (Nat.le_refl _)
theorem CA(d:Nat)(s:St):Le s.ts.length (cD d s):=nc _ d s
def dS(d:Nat)(s:St):Option (Except Fault ((Stats->Stats)×St)):=eR (a6 .sum) cw cD d s
theorem Dr{d:Nat}{s:St}{g:Except Fault ((Stats->Stats)×St)}(h:dS d s=some g):Lt s.ts.length g:=
 wx (fun d s=>(xY d s).le) (fun d s=>(qS d s).le) (fun d s=>CA d s) h
theorem uS(d:Nat)(s:St):cD d s=match dS d s with
  |some g=>g>>=fun x=>cD d x.2>>=fun r=>.ok (x.1 r.1,r.2)
  |none=>.ok (.nil,s):=by
 show statsAt (3*s.ts.length+1) d s=_
 rw[pW]
 unfold lJ
 rw[Bj (S':=a6 .sum) (I':=cw) (T':=cD) (fun d t ht=>fq (by simp only[a5];omega)) (fun d t ht=>rY (by omega)) (fun d t ht=>q0 (by omega)) fun d s=>(xY d s).le]
 show(match dS d s with|some g=>_|none=>_)=_
 cases h:dS d s with
 |none=>rfl
 |some g=>
  dsimp only
  refine aY rfl fun x t e=>?_
  have h3:=Dr h x t e
  exact aY (q0 (by dsimp only;omega)) fun _ _ _=>rfl
end Wm
end
section
set_option linter.all false
namespace Wm
open LsWale
theorem rA:∀(f m:Nat)(l:List Bytes)(s:St),Lt s.ts.length (namesAt f m l s)
 |0,m,l,s=>by rw[namesAt];exact g9
 |f+1,m,l,s=>by
  rw[namesAt]
  refine Lt.bind fun x t e=>?_
  have h1:=ib x t e
  dsimp only
  split
  ·rename_i h
   have h0:=aU (eX h)
   exact(rA f m _ t.next).mono (by omega)
  ·exact cM h1
theorem vE:∀(f g m:Nat)(l:List Bytes)(s:St),s.ts.length+1<=f->s.ts.length+1<=g->namesAt f m l s=namesAt g m l s
 |0,_,_,_,_,h,_=>by omega
 |_+1,0,_,_,_,_,h=>by omega
 |f+1,g+1,m,l,s,h1,h2=>by
  rw[namesAt,namesAt]
  refine aY rfl fun x t e=>?_
  have h3:=ib x t e
  dsimp only
  split
  ·rename_i h
   have h0:=aU (eX h)
   exact vE f g m _ t.next (by omega) (by omega)
  ·rfl
def jn(m:Nat)(l:List Bytes)(s:St):Except Fault (List Bytes×St):=namesAt (s.ts.length+1) m l s
theorem BV{f m:Nat}{l:List Bytes}{s:St}(h:s.ts.length+1<=f):namesAt f m l s=jn m l s:=vE _ _ _ _ _ h (Nat.le_refl _)
theorem Fx(m:Nat)(l:List Bytes)(s:St):jn m l s=newName l.length m s l>>=fun x=>if x.2.isSign ','=true then jn m (l++[x.1]) x.2.next else .ok (l++[x.1],x.2):=by
 show namesAt (s.ts.length+1) m l s=_
 rw[namesAt]
 refine aY rfl fun x t e=>?_
 have h3:=ib x t e
 dsimp only
 split
 ·rename_i h
  have h0:=aU (eX h)
  exact BV (by omega)
 ·rfl
theorem tO:∀(f:Nat)(s:St),Lt s.ts.length (sumsAt f s)
 |0,s=>by rw[sumsAt];exact g9
 |f+1,s=>by
  rw[sumsAt]
  refine Lt.bind fun x t e=>?_
  have h1:=g4 f 0 s x t e
  dsimp only
  split
  ·rename_i h
   have h0:=aU (eX h)
   refine Lt.bind fun l u e2=>cM ?_
   have h2:=tO f t.next l u e2
   dsimp only
   omega
  ·exact cM h1
theorem vy:∀(f g:Nat)(s:St),3*s.ts.length+4<=f->3*s.ts.length+4<=g->sumsAt f s=sumsAt g s
 |0,_,_,h,_=>by omega
 |_+1,0,_,_,h=>by omega
 |f+1,g+1,s,h1,h2=>by
  rw[sumsAt,sumsAt]
  refine aY (eT f g _ _ _ (by simp only[a5];omega) (by simp only[a5];omega)) fun x t e=>?_
  have h3:=g4 g 0 s x t e
  dsimp only
  split
  ·rename_i h
   have h0:=aU (eX h)
   exact aY (vy f g t.next (by omega) (by omega)) fun _ _ _=>rfl
  ·rfl
def i9(s:St):Except Fault (List Sum×St):=sumsAt (3*s.ts.length+4) s
theorem DN{f:Nat}{s:St}(h:3*s.ts.length+4<=f):sumsAt f s=i9 s:=vy _ _ _ h (Nat.le_refl _)
theorem Bt(s:St):i9 s=a6 .sum 0 s>>=fun x=>if x.2.isSign ','=true then(i9 x.2.next>>=fun l=>.ok (x.1::l.1,l.2))else .ok ([x.1],x.2):=by
 show sumsAt (3*s.ts.length+4) s=_
 rw[sumsAt]
 refine aY (fq (by simp only[a5];omega)) fun x t e=>?_
 have h3:=xY 0 s x t e
 dsimp only
 split
 ·rename_i h
  have h0:=aU (eX h)
  exact aY (DN (by omega)) fun _ _ _=>rfl
 ·rfl
def fE(N:Nat->List Bytes->St->Except Fault (List Bytes×St))(S:St->Except Fault (List Sum×St))(I:Nat->St->Except Fault (Items×St))(T:Nat->St->Except Fault (Stats×St))(s:St):Option (Except Fault (Head×St)):=
 if s.isWord "sizes"=true then some
  (if s.env.sizes.isSome=true\/s.env.lets≠[]then .error ⟨5,s.place⟩else
   N SIZES [] s.next>>=fun x=>eatSign ';' x.2>>=fun t=>.ok (.sizes x.1,{t with env:={t.env with sizes:=some x.1}}))
 else if s.isWord "yarns"=true then some
  (if s.env.yarns.isSome=true then .error ⟨5,s.place⟩else
   N YARNS [] s.next>>=fun x=>eatSign ';' x.2>>=fun t=>.ok (.yarns x.1,{t with env:={t.env with yarns:=some x.1}}))
 else if s.isWord "let"=true then some
  (newName s.env.lets.length LETS s.next []>>=fun n=>eatSign '=' n.2>>=fun t=>S t>>=fun x=>eatSign ';' x.2>>=fun u=>
   if x.1.length≠1/\x.1.length≠s.env.many then .error ⟨7,s.next.place⟩else .ok (.let_ n.1 x.1,{u with env:={u.env with lets:=u.env.lets++[n.1]}}))
 else if s.isWord "word"=true then some
  (newName s.env.words.length WORDS s.next []>>=fun n=>eatSign '=' n.2>>=fun t=>I 0 t>>=fun x=>eatSign ';' x.2>>=fun u=>
   .ok (.word n.1 x.1,{u with env:={u.env with words:=u.env.words++[n.1]}}))
 else if s.isWord "block"=true then some
  (newName s.env.blocks.length BLOCKS s.next []>>=fun n=>eatOpen '{' 0 n.2>>=fun t=>T 1 t>>=fun x=>eatSign '}' x.2>>=fun u=>
   .ok (.block n.1 x.1,{u with env:={u.env with blocks:=u.env.blocks++[n.1]}}))
 else none
def qm(U:St->Option (Except Fault (Head×St)))(T:St->Except Fault (List Head×St))(s:St):Except Fault (List Head×St):=
 match U s with
 |some g=>g>>=fun x=>T x.2>>=fun r=>.ok (x.1::r.1,r.2)
 |none=>.ok ([],s)
theorem sO(f:Nat)(s:St):headsAt (f+1) s=qm (fE (namesAt f) (sumsAt f) (itemsAt f) (statsAt f)) (headsAt f) s:=by
 rw[headsAt]
 unfold qm fE
 dsimp only
 split
 ·dsimp only
  by_cases h:s.env.sizes.isSome=true\/s.env.lets≠[]
  ·rw[if_pos h,if_pos h];rfl
  ·rw[if_neg h,if_neg h];simp only[bL,ee];rfl
 ·split
  ·dsimp only
   by_cases h:s.env.yarns.isSome=true
   ·rw[if_pos h,if_pos h];rfl
   ·rw[if_neg h,if_neg h];simp only[bL,ee];rfl
  ·split
   ·simp only[bL]
    refine aY rfl fun n t e=>f7 fun u e=>aY rfl fun x t e=>f7 fun v e=>?_
    dsimp only
    split<;>rfl
   ·split
    ·simp only[bL,ee];rfl
    ·split
     ·simp only[bL,ee];rfl
     ·rfl
theorem oZ{α:Type}{n:Nat}{s:St}{x:α}{e:Env}(h:s.ts.length<n):Lt n (.ok (x,({s with env:=e}:St))):=cM h
theorem uY{N:Nat->List Bytes->St->Except Fault (List Bytes×St)}{S:St->Except Fault (List Sum×St)}{I:Nat->St->Except Fault (Items×St)}{T:Nat->St->Except Fault (Stats×St)}
  (hN:∀m l s,Le s.ts.length (N m l s)) (hS:∀s,Le s.ts.length (S s)) (hI:∀d s,Le s.ts.length (I d s)) (hT:∀d s,Le s.ts.length (T d s)) {s:St} {g:Except Fault (Head×St)} (h:fE N S I T s=some g):Lt s.ts.length g:=by
 unfold fE at h
 split at h
 ·rename_i w;have h0:=aU (bE w)
  cases h
  split
  ·exact fX
  ·refine Lt.bind fun x t e=>cK.bind fun u e2=>oZ ?_
   have h1:=hN _ _ _ x t e
   have h2:=dg u e2
   dsimp only at h2
   omega
 ·split at h
  ·rename_i w;have h0:=aU (bE w)
   cases h
   split
   ·exact fX
   ·refine Lt.bind fun x t e=>cK.bind fun u e2=>oZ ?_
    have h1:=hN _ _ _ x t e
    have h2:=dg u e2
    dsimp only at h2
    omega
  ·split at h
   ·rename_i w;have h0:=aU (bE w)
    cases h
    refine Lt.bind fun n t e=>cK.bind fun u e2=>Lt.bind fun x v e3=>cK.bind fun z e4=>?_
    split
    ·exact fX
    ·refine oZ ?_
     have h1:=ib n t e
     have h2:=dg u e2
     have h3:=hS _ x v e3
     have h4:=dg z e4
     dsimp only at h2 h4
     omega
   ·split at h
    ·rename_i w;have h0:=aU (bE w)
     cases h
     refine Lt.bind fun n t e=>cK.bind fun u e2=>Lt.bind fun x v e3=>cK.bind fun z e4=>oZ ?_
     have h1:=ib n t e
     have h2:=dg u e2
     have h3:=hI _ _ x v e3
     have h4:=dg z e4
     dsimp only at h2 h4
     omega
    ·split at h
     ·rename_i w;have h0:=aU (bE w)
      cases h
      refine Lt.bind fun n t e=>cK.bind fun u e2=>Lt.bind fun x v e3=>cK.bind fun z e4=>oZ ?_
      have h1:=ib n t e
      have h2:=gE u e2
      have h3:=hT _ _ x v e3
      have h4:=dg z e4
      dsimp only at h2 h4
      omega
     ·cases h
theorem D2{N N':Nat->List Bytes->St->Except Fault (List Bytes×St)}{S S':St->Except Fault (List Sum×St)}{I I':Nat->St->Except Fault (Items×St)}{T T':Nat->St->Except Fault (Stats×St)}{s:St}
  (hN:∀m l t,t.ts.length<s.ts.length->N m l t=N' m l t) (hS:∀t,t.ts.length+2<s.ts.length->S t=S' t) (hI:∀d t,t.ts.length<s.ts.length->I d t=I' d t) (hT:∀d t,t.ts.length<s.ts.length->T d t=T' d t):
  fE N S I T s=fE N' S' I' T' s:=by
 unfold fE
 split
 ·rename_i w;have h0:=aU (bE w)
  rw[hN _ _ _ h0]
 ·split
  ·rename_i w;have h0:=aU (bE w)
   rw[hN _ _ _ h0]
  ·split
   ·rename_i w;have h0:=aU (bE w)
    refine congrArg some (aY rfl fun n t e=>f7 fun u e2=>?_)
    have h1:=ib n t e
    have h2:=dg u e2
    rw[hS _ (by dsimp only at h2;omega)]
   ·split
    ·rename_i w;have h0:=aU (bE w)
     refine congrArg some (aY rfl fun n t e=>f7 fun u e2=>?_)
     have h1:=ib n t e
     have h2:=dg u e2
     rw[hI _ _ (by dsimp only at h2;omega)]
    ·split
     ·rename_i w;have h0:=aU (bE w)
      refine congrArg some (aY rfl fun n t e=>f7 fun u e2=>?_)
      have h1:=ib n t e
      have h2:=gE u e2
      rw[hT _ _ (by dsimp only at h2;omega)]
     ·rfl
theorem zS:∀(f g:Nat)(s:St),3*s.ts.length+1<=f->3*s.ts.length+1<=g->headsAt f s=headsAt g s
 |0,_,_,h,_=>by omega
 |_+1,0,_,_,h=>by omega
 |f+1,g+1,s,h1,h2=>by
  rw[sO,sO]
  unfold qm
  rw[D2 (N':=namesAt g) (S':=sumsAt g) (I':=itemsAt g) (T':=statsAt g) (fun m l t ht=>vE f g m l t (by omega) (by omega)) (fun t ht=>vy f g t (by omega) (by omega))
   (fun d t ht=>oH f g d t (by omega) (by omega)) fun d t ht=>sQ f g d t (by omega) (by omega)]
  split
  ·rename_i q h
   refine aY rfl fun x t e=>?_
   have h3:=uY (fun m l s=>(rA g m l s).le) (fun s=>(tO g s).le) (fun d s=>(iw g d s).le) (fun d s=>nc g d s) h x t e
   exact aY (zS f g t (by omega) (by omega)) fun _ _ _=>rfl
  ·rfl
def jl(s:St):Except Fault (List Head×St):=headsAt (3*s.ts.length+1) s
theorem CD{f:Nat}{s:St}(h:3*s.ts.length+1<=f):headsAt f s=jl s:=zS _ _ _ h (Nat.le_refl _)
def dN(s:St):Option (Except Fault (Head×St)):=fE jn i9 cw cD s
theorem CB{s:St}{g:Except Fault (Head×St)}(h:dN s=some g):Lt s.ts.length g:=
 uY (fun m l s=>(rA _ m l s).le) (fun s=>(tO _ s).le) (fun d s=>(qS d s).le) (fun d s=>CA d s) h
theorem yz(s:St):jl s=match dN s with
  |some g=>g>>=fun x=>jl x.2>>=fun r=>.ok (x.1::r.1,r.2)
  |none=>.ok ([],s):=by
 show headsAt (3*s.ts.length+1) s=_
 rw[sO]
 unfold qm
 rw[D2 (N':=jn) (S':=i9) (I':=cw) (T':=cD) (fun m l t ht=>BV (by omega)) (fun t ht=>DN (by omega)) (fun d t ht=>rY (by omega)) fun d t ht=>q0 (by omega)]
 show(match dN s with|some g=>_|none=>_)=_
 cases h:dN s with
 |none=>rfl
 |some g=>
  dsimp only
  refine aY rfl fun x t e=>?_
  have h3:=CB h x t e
  exact aY (CD (by dsimp only;omega)) fun _ _ _=>rfl
theorem C0:∀(f:Nat)(s:St),Le s.ts.length (headsAt f s)
 |0,s=>by rw[headsAt];exact g9.le
 |f+1,s=>by
  rw[sO]
  unfold qm
  split
  ·rename_i g h
   refine Le.bind fun x t e=>Le.bind fun r u e2=>g0 ?_
   have h1:=uY (fun m l s=>(rA f m l s).le) (fun s=>(tO f s).le) (fun d s=>(iw f d s).le) (fun d s=>nc f d s) h x t e
   have h2:=C0 f t r u e2
   dsimp only
   omega
  ·exact g0 (Nat.le_refl _)
theorem By(b:Bytes):∀(n p:Nat),b.length-p<=n->p<=b.length->(toks b p).length<=b.length-p+1
 |0,p,h,hp=>by
  rw[tI]
  cases ht:cv (aj b p)with
  |false=>rw[lp ht];simp
  |true=>
   have h1:=Ag ht
   have h2:=vA hp
   omega
 |n+1,p,h,hp=>by
  rw[tI]
  cases ht:cv (aj b p)with
  |false=>rw[lp ht];simp
  |true=>
   have h1:=Ag ht
   have h2:=vA hp
   rw[mC ht]
   have:=By b n (ay b p) (by omega) h2
   simp only[List.length_cons]
   omega
def sX(s:St):Except Fault (Pattern×Env):=
 eatWord "pattern" s>>=fun s=>anyName s>>=fun n=>eatSign ';' n.2>>=fun t=>jl t>>=fun h=>cD 0 h.2>>=fun x=>
  match x.2.ts with
  |⟨_,.done⟩::_=>.ok (⟨n.1,h.1,x.1⟩,x.2.env)
  |_=>wanted x.2
theorem AA{b:Bytes}(h:b.length<=MOST):readAll b=sX ⟨toks b 0,.none_⟩:=by
 unfold readAll
 rw[if_neg (by omega)]
 show(eatWord "pattern" ⟨tokensOf b,.none_⟩>>=_)=_
 rw[Fn]
 unfold sX
 have hl:(toks b 0).length<=b.length+1:=By b b.length 0 (by omega) (by omega)
 have bS:∀{β:Type}{r:Except Fault St}{f g:St->Except Fault β},(∀s,r=.ok s->f s=g s)->(r>>=f)=(r>>=g):=by
  intro β r f g hh
  cases r with
  |error e=>rfl
  |ok s=>exact hh s rfl
 have bP:∀{α β:Type}{r r':Except Fault (α×St)}{f g:α×St->Except Fault β},r=r'->(∀x s,r'=.ok (x,s)->f (x,s)=g (x,s))->(r>>=f)=(r'>>=g):=by
  intro α β r r' f g e hh
  subst e
  cases r with
  |error e=>rfl
  |ok p=>obtain⟨x,s⟩:=p;exact hh x s rfl
 refine bS fun s e=>bP rfl fun n t e1=>bS fun u e2=>?_
 have h1:=AF s e
 have h2:=oO n t e1
 have h3:=dg u e2
 dsimp only at h1 h2 h3
 refine bP (CD (by omega)) fun hd v e3=>?_
 have h4:=C0 _ u hd v e3
 exact bP (q0 (by dsimp only;omega)) fun x w e4=>rfl
end Wm
end
section
set_option Elab.async false
set_option linter.all false
set_option maxRecDepth 100000
set_option maxHeartbeats 2000000
namespace Wale
open PySem PySem.Spec PyProof.Rows L2
variable {P:Program}{w:World}{K:PySem.W.Frag}{mg:Str->Option Value}{base:Heap}{a:Ad}
theorem fG{ι:Type}{c:TT}{tb:TS}{D:Ends}{σ:L2.St}{H:Hp}(I:ι->L2.St->Hp->Prop)(μ:ι->Nat)(i0:ι)(h0:I i0 σ H)
  (hs:∀i σ H,I i σ H->c σ H fun b H1=>if b=true then ∃N:L2.St->Hp->Prop,(∀σ' H',N σ' H'->∃m',m'<μ i/\∃j,m'=μ j/\I j σ' H')/\tb {D with nx:=N,ct:=N,bk:=D.nx} σ H1 else D.nx σ H1):yS c tb D σ H:=
 ⟨fun m σ H=>∃i,m=μ i/\I i σ H,⟨_,i0,rfl,h0⟩,fun m σ H⟨i,e,q⟩=>by subst e;exact hs i σ H q⟩
theorem fg{ι:Type}{tb:TS}{D:Ends}{σ:L2.St}{H:Hp}{I:ι->L2.St->Hp->Prop}{μ:ι->Nat}{i:ι}
  (h:tb {D with nx:=fun σ' H'=>∃j,μ j<μ i/\I j σ' H',ct:=fun σ' H'=>∃j,μ j<μ i/\I j σ' H',bk:=D.nx} σ H):
  ∃N:L2.St->Hp->Prop,(∀σ' H',N σ' H'->∃m',m'<μ i/\∃j,m'=μ j/\I j σ' H')/\tb {D with nx:=N,ct:=N,bk:=D.nx} σ H:=
 ⟨_,fun σ' H'⟨j,l,q⟩=>⟨_,l,j,rfl,q⟩,h⟩
abbrev Bytes:=LsWale.Bytes
def nums(b:Bytes):List V:=b.map fun c=>V.int (c.toNat:Int)
def strOf(b:Bytes):Str:=⟨(b.map UInt8.toNat).toArray⟩
theorem eK(b:Bytes):(nums b).length=b.length:=by unfold nums;rw[List.length_map]
theorem fi{b:Bytes}{i:Nat}{c:UInt8}(h:b[i]? =some c):kU (nums b) (i:Int)=some (.int c.toNat):=by
 refine ya ?_
 unfold nums
 rw[List.getElem?_map,h]
 rfl
def v9(g:Int->Bool):Sp:=fun vs H Q _=>∃n:Int,vs=[.int n]/\Q (.bl (g n)) H
def i7(n:Int):Bool:=decide (97<=n)&&decide (n<=122)
def digit(n:Int):Bool:=decide (48<=n)&&decide (n<=57)
def j3(n:Int):Bool:=i7 n||(digit n||decide (n=95))
theorem E9:aI ["byte"] ["byte"] (aD wa):=⟨rfl,rfl,rfl,by decide +kernel,rfl,by decide +kernel,by decide +kernel⟩
theorem tF(T:Tx P w K mg a):aB P w K mg base bx 1 a.pU a.oQ ["byte"] (v9 i7):=by
 refine T.pH.fn.ok E9 (fun vs H Q E h=>?_) (fun cdv A outer s H vs Q E hr h=>?_)
 ·obtain⟨n,rfl,_⟩:=h;rfl
 obtain⟨n,rfl,k⟩:=h
 refine⟨_,ak (aK (Cv o7 o7 (cy T.CQ) (pv 0) (cy T.FK))),?_⟩
 refine⟨_,rfl,_,_,rfl,rfl,_,rfl,?_⟩
 unfold i7 at k
 refine aT (fun c=>?_) (fun c=>?_)
 ·rw[c,Bool.true_and]at k
  exact⟨_,_,rfl,rfl,k⟩
 ·rw[Bool.eq_false_iff.mpr c,Bool.false_and]at k
  exact k
theorem Gn:aI ["byte"] ["byte"] (aD vk):=⟨rfl,rfl,rfl,by decide +kernel,rfl,by decide +kernel,by decide +kernel⟩
theorem qP(T:Tx P w K mg a):aB P w K mg base bx 1 a.nO a.qE ["byte"] (v9 digit):=by
 refine T.oS.fn.ok Gn (fun vs H Q E h=>?_) (fun cdv A outer s H vs Q E hr h=>?_)
 ·obtain⟨n,rfl,_⟩:=h;rfl
 obtain⟨n,rfl,k⟩:=h
 refine⟨_,ak (aK (Cv o7 o7 (cy T.qX) (pv 0) (cy T.IB))),?_⟩
 refine⟨_,rfl,_,_,rfl,rfl,_,rfl,?_⟩
 unfold digit at k
 refine aT (fun c=>?_) (fun c=>?_)
 ·rw[c,Bool.true_and]at k
  exact⟨_,_,rfl,rfl,k⟩
 ·rw[Bool.eq_false_iff.mpr c,Bool.false_and]at k
  exact k
theorem FP:aI ["byte"] ["byte"] (aD yI):=⟨rfl,rfl,rfl,by decide +kernel,rfl,by decide +kernel,by decide +kernel⟩
theorem JE(T:Tx P w K mg a):aB P w K mg base bx 2 a.o6 a.nU ["byte"] (v9 j3):=by
 refine T.DZ.fn.ok FP (fun vs H Q E h=>?_) (fun cdv A outer s H vs Q E hr h=>?_)
 ·obtain⟨n,rfl,_⟩:=h;rfl
 obtain⟨n,rfl,k⟩:=h
 refine⟨_,ak (aK (sU (aS T.pH (tF T) hr a3 (ae (pv 0) ag)) (sU (aS T.oS (qP T) hr a3 (ae (pv 0) ag)) (sf (jq b9 (pv 0) (cy T.zo) (aX _)))))),?_⟩
 refine⟨_,rfl,n,rfl,_,rfl,?_⟩
 unfold j3 at k
 refine aT (fun c=>?_) (fun c=>?_)
 ·rw[c,Bool.true_or]at k;exact k
 rw[Bool.eq_false_iff.mpr c,Bool.false_or]at k
 refine⟨_,rfl,n,rfl,_,rfl,?_⟩
 refine aT (fun c=>?_) (fun c=>?_)
 ·rw[c,Bool.true_or]at k;exact k
 rw[Bool.eq_false_iff.mpr c,Bool.false_or]at k
 refine⟨_,rfl,rfl,?_⟩
 rw[show decide (V.int n=V.int 95)=decide (n=95) by by_cases h:n=95<;>simp[h]]
 exact k
theorem LR:∀k:Nat,k<26->("abcdefghijklmnopqrstuvwxyz":Str).cps.toList[k]? =some (97+k):=by decide +kernel
theorem II:∀k:Nat,k<10->("0123456789":Str).cps.toList[k]? =some (48+k):=by decide +kernel
def D6:Sp:=fun vs H Q _=>∃n:Int,vs=[.int n]/\j3 n=true/\Q (.str ⟨#[n.toNat]⟩) H
theorem GL:aI ["byte"] ["byte"] (aD vH):=⟨rfl,rfl,rfl,by decide +kernel,rfl,by decide +kernel,by decide +kernel⟩
theorem FC(T:Tx P w K mg a):aB P w K mg base bx 2 a.oB a.ql ["byte"] D6:=by
 refine T.sign_of.fn.ok GL (fun vs H Q E h=>?_) (fun cdv A outer s H vs Q E hr h=>?_)
 ·obtain⟨n,rfl,_⟩:=h;rfl
 obtain⟨n,rfl,ht,k⟩:=h
 refine⟨_,ai (a7 (di (aS T.pH (tF T) hr a3 (ae (pv 0) ag))) (ak (aK (eh BC (bB T.Ha) (fC vJ (pv 0) (cy T.CQ)) (fun _ _=>rfl)))) bj)
  (ai (a7 (di (aS T.oS (qP T) hr a3 (ae (pv 0) ag))) (ak (aK (eh BC (bB T.G7) (fC vJ (pv 0) (cy T.qX)) (fun _ _=>rfl)))) bj)
  (ak (aK aQ))),?_⟩
 refine⟨_,rfl,n,rfl,_,rfl,?_⟩
 refine aT (fun c=>?_) (fun c=>?_)
 ·simp only[i7,Bool.and_eq_true,decide_eq_true_eq]at c
  refine⟨_,rfl,_,_,rfl,rfl,_,_,n.toNat,rfl,rfl,by decide,?_,k⟩
  have e:n-97=((n.toNat-97:Nat):Int):=by omega
  rw[e]
  refine ya ?_
  rw[LR _ (by omega)]
  congr 1;omega
 refine⟨_,rfl,n,rfl,_,rfl,?_⟩
 refine aT (fun c2=>?_) (fun c2=>?_)
 ·simp only[digit,Bool.and_eq_true,decide_eq_true_eq]at c2
  refine⟨_,rfl,_,_,rfl,rfl,_,_,n.toNat,rfl,rfl,by decide,?_,k⟩
  have e:n-48=((n.toNat-48:Nat):Int):=by omega
  rw[e]
  refine ya ?_
  rw[II _ (by omega)]
  congr 1;omega
 ·have h95:n=95:=by
   simp only[j3,Bool.eq_false_iff.mpr c,Bool.eq_false_iff.mpr c2,Bool.false_or,decide_eq_true_eq]at ht
   exact ht
  subst h95
  exact k
def wV(K:PySem.W.Frag):Sp:=fun vs H Q _=>∃(p:Addr)(b:Bytes),vs=[.ref p]/\aO K H p (nums b)/\(∀c∈b,j3 (c.toNat:Int)=true)/\b.length<=20000/\∀H',aN H H'->Q (.str (strOf b)) H'
theorem ub:aI ["codes","byte"] ["codes"] (aD sr):=⟨rfl,rfl,rfl,by decide +kernel,rfl,by decide +kernel,by decide +kernel⟩
theorem join_one(b:Bytes):Txt.join "" (b.map fun c=>(⟨#[c.toNat]⟩:Str))=strOf b:=by
 rw[TL.join_eq]
 have e:∀l:List (List Nat),TL.mO [] l=l.flatten:=by
  intro l
  induction l with
  |nil=>rfl
  |cons p r ih=>
   cases r with
   |nil=>simp[TL.mO]
   |cons q r=>rw[TL.mO,ih];simp
 have h:=TL.B0 "" (b.map fun c=>(⟨#[c.toNat]⟩:Str))
 rw[show TL.tl ("":Str)=[]from by decide +kernel,e,List.map_map]at h
 have h2:(List.map (TL.tl∘fun c=>(⟨#[UInt8.toNat c]⟩:Str)) b).flatten=b.map UInt8.toNat:=by
  clear h
  induction b with
  |nil=>rfl
  |cons c r ih=>rw[List.map_cons,List.flatten_cons,ih];rfl
 rw[h2]at h
 unfold strOf
 generalize Str.join "" (b.map fun c=>(⟨#[c.toNat]⟩:Str))=z at h
 obtain⟨⟨l⟩⟩:=z
 have h3:l=b.map UInt8.toNat:=h
 rw[h3]
theorem Kg:o3 ["codes","byte"] (aD sr) {kind:=.function,names:=[(".0",.local),("byte",.local),("sign_of",.globalImplicit)],isGenerator:=false,isCoroutine:=false} [("byte",1)]:=JA (by decide +kernel)
theorem zm(T:Tx P w K mg a):aB P w K mg base bx 3 a.oJ a.pZ ["codes"] (wV K):=by
 refine T.spelled.fn.ok ub (fun vs H Q E h=>?_) (fun cdv A outer s H vs Q E hr h=>?_)
 ·obtain⟨_,_,rfl,_⟩:=h;rfl
 obtain⟨p,b,rfl,hS,ht,hl,k⟩:=h
 refine⟨_,ak (aK (Eu aQ (LM (own:=[("byte",1)]) rfl ub.nd (Hc (pv 0)) Kg (fun _ _ _ _ _=>Ig (i:=1) ub.nd rfl (Or.inl rfl)) (fun _ _ _ _ _=>Ij)
  (fun _ _ _ _ _=>aS T.sign_of (FC T) hr a3 (ae (pv 1) ag))))),?_⟩
 refine⟨⟨_,rfl⟩,_,rfl,p,rfl,⟨_,hS⟩,fun D hD=>?_⟩
 have s0:aN H (upd H D (.lst [])):=fun x o e=>by rw[ao (eS e hD)];exact e
 refine Hi (K:=K) (a:=p) (xs:=nums b) (fun i H'=>aN H H'/\H' D=some (.lst ((b.take i).map fun c=>V.str ⟨#[c.toNat]⟩))) ⟨s0,az⟩ (fun i H' _ q=>q.1.seq hS) (fun i x H' hi q=>?_) (fun H' q=>?_)
 ·obtain⟨sm,hd⟩:=q
  unfold nums at hi
  rw[List.getElem?_map]at hi
  obtain⟨c,hc,rfl⟩:=Option.map_eq_some_iff.mp hi
  have hi2:i<b.length:=(List.getElem?_eq_some_iff.mp hc).1
  refine⟨rfl,⟨_,rfl,_,rfl,ht c (List.mem_of_getElem? hc),_,hd,?_,?_,?_⟩⟩
  ·rw[List.length_map,List.length_take,sizeLine_eq];omega
  ·exact fun x o e=>by
    rw[ao (eS e hD)]
    exact sm x o e
  ·rw[az,List.take_add_one,hc]
   simp
 ·obtain⟨sm,hd⟩:=q
  rw[eK,List.take_length]at hd
  refine⟨_,D,b.map fun c=>(⟨#[c.toNat]⟩:Str),rfl,rfl,.inl (aO.of (by rw[hd,List.map_map];rfl)),?_,?_⟩
  ·have:((b.map fun c=>(⟨#[c.toNat]⟩:Str)).map (·.length)).sum=b.length:=by
    rw[List.map_map]
    clear hd sm s0 hD k hl ht hS
    induction b with
    |nil=>rfl
    |cons c r ih=>rw[List.map_cons,List.sum_cons,ih,List.length_cons];show 1+_=_;omega
   rw[this]
   show _+_*0<=_
   omega
  ·rw[join_one]
   exact k H' sm
end Wale
end
section
set_option linter.all false
namespace Wm
open LsWale
theorem drop_cons{b:Bytes}{q:Nat}{c:UInt8}(h:b[q]? =some c):b.drop q=c::b.drop (q+1):=by
 obtain⟨hl,rfl⟩:=List.getElem?_eq_some_iff.mp h
 exact List.drop_eq_getElem_cons hl
theorem r5{b:Bytes}{q:Nat}(h:b.length<=q):b.drop q=[]:=List.drop_eq_nil_of_le h
theorem k6(c:UInt8):isByte c=true↔c.toNat=10\/(32<=c.toNat/\c.toNat<=126):=by
 unfold isByte
 rw[Bool.or_eq_true,Bool.and_eq_true,decide_eq_true_eq,decide_eq_true_eq,beq_iff_eq,UInt8.le_iff_toNat_le,UInt8.le_iff_toNat_le,<-UInt8.toNat_inj]
 rfl
theorem rK(c:UInt8):isLetter c=true↔97<=c.toNat/\c.toNat<=122:=by
 unfold isLetter
 rw[Bool.and_eq_true,decide_eq_true_eq,decide_eq_true_eq,UInt8.le_iff_toNat_le,UInt8.le_iff_toNat_le]
 rfl
theorem qR(c:UInt8):isDigit c=true↔48<=c.toNat/\c.toNat<=57:=by
 unfold isDigit
 rw[Bool.and_eq_true,decide_eq_true_eq,decide_eq_true_eq,UInt8.le_iff_toNat_le,UInt8.le_iff_toNat_le]
 rfl
theorem y4(c:UInt8):isTail c=true↔(97<=c.toNat/\c.toNat<=122)\/c.toNat=95:=by
 unfold isTail
 rw[Bool.or_eq_true,rK,beq_iff_eq,<-UInt8.toNat_inj]
 rfl
theorem xW{b:Bytes}{q:Nat}{c:UInt8}(h:b[q]? =some c):blanks false (b.drop q)=
  if c.toNat=10\/c.toNat=32 then 1+blanks false (b.drop (q+1))else if c.toNat=35 then 1+blanks true (b.drop (q+1))else 0:=by
 rw[drop_cons h,blanks]
 have e1:(c=10\/c=32)↔(c.toNat=10\/c.toNat=32):=by rw[<-UInt8.toNat_inj,<-UInt8.toNat_inj];rfl
 have e2:c=35↔c.toNat=35:=by rw[<-UInt8.toNat_inj];rfl
 simp only[e1,e2]
theorem t8{b:Bytes}{q:Nat}{c:UInt8}(h:b[q]? =some c):blanks true (b.drop q)=
  if c.toNat=10 then 1+blanks false (b.drop (q+1))else if isByte c=true then 1+blanks true (b.drop (q+1))else 0:=by
 rw[drop_cons h,blanks]
 have e2:c=10↔c.toNat=10:=by rw[<-UInt8.toNat_inj];rfl
 simp only[e2]
theorem xa{f:Bool}{b:Bytes}{q:Nat}(h:b.length<=q):blanks f (b.drop q)=0:=by
 rw[r5 h];cases f<;>rfl
theorem Mf(d:Bytes)(c:UInt8):valueOf (d++[c])=10*valueOf d+(c.toNat-48):=by
 unfold valueOf;rw[List.foldl_append];rfl
theorem MG(v d:Nat):min (min v 1048577*10+d) 1048577=min (10*v+d) 1048577:=by omega
def run(f:UInt8->Bool)(b:Bytes)(p:Nat):Nat:=((b.drop p).takeWhile f).length
theorem yn{f:UInt8->Bool}{b:Bytes}{p:Nat}{c:UInt8}(h:b[p]? =some c):run f b p=if f c=true then 1+run f b (p+1)else 0:=by
 unfold run
 rw[drop_cons h,List.takeWhile_cons]
 split
 ·rw[List.length_cons];omega
 ·rfl
theorem vd{f:UInt8->Bool}{b:Bytes}{p:Nat}(h:b.length<=p):run f b p=0:=by
 unfold run;rw[r5 h];rfl
theorem qQ(f:UInt8->Bool)(l:Bytes):l.take (l.takeWhile f).length=l.takeWhile f:=by
 induction l with
 |nil=>rfl
 |cons c r ih=>
  rw[List.takeWhile_cons]
  split
  ·rw[List.length_cons,List.take_succ_cons,ih]
  ·rfl
theorem Df{f:UInt8->Bool}{l:Bytes}:∀c∈l.takeWhile f,f c=true:=by
 intro c hc
 induction l with
 |nil=>cases hc
 |cons d r ih=>
  rw[List.takeWhile_cons]at hc
  split at hc
  ·rename_i q
   rcases List.mem_cons.mp hc with rfl|hc
   ·exact q
   ·exact ih hc
  ·cases hc
theorem take_snoc{l:Bytes}{i:Nat}{c:UInt8}(h:l[i]? =some c):l.take (i+1)=l.take i++[c]:=by
 rw[List.take_add_one,h];rfl
def dD(c:UInt8):Bool:=isTail c||isDigit c
theorem gn:∀w∈DIGITWORDS,(∀c∈w,dD c=true)/\w.length<=5/\1<=w.length:=by decide +kernel
theorem An{f:UInt8->Bool}{b w:Bytes}(h1:b.take w.length=w)(h2:∀c∈w,f c=true)(h3:((b.drop w.length).take 1).any f=false):b.takeWhile f=w:=by
 have e:b=w++b.drop w.length:=by
  have:=List.take_append_drop w.length b
  rw[h1]at this
  exact this.symm
 rw[e,List.takeWhile_append_of_pos h2]
 cases hd:b.drop w.length with
 |nil=>simp
 |cons c r=>
  rw[hd]at h3
  simp only[List.take_succ_cons,List.take_zero,List.any_cons,List.any_nil,Bool.or_false]at h3
  rw[List.takeWhile_cons,h3]
  simp
theorem Kn{f:UInt8->Bool}{b w:Bytes}(h:b.takeWhile f=w):b.take w.length=w/\((b.drop w.length).take 1).any f=false:=by
 subst h
 refine⟨qQ f b,?_⟩
 induction b with
 |nil=>rfl
 |cons c r ih=>
  rw[List.takeWhile_cons]
  split
  ·rw[List.length_cons,List.drop_succ_cons];exact ih
  ·rename_i q
   simp only[List.length_nil,List.drop_zero,List.take_succ_cons,List.take_zero,List.any_cons,List.any_nil,Bool.or_false]
   simpa using q
def cY(b:Bytes):Bytes:=(b.takeWhile dD).take 6
theorem L8{b w:Bytes}(h:cY b=w)(hl:w.length<=5):b.takeWhile dD=w:=by
 unfold cY at h
 have h1:min 6 (b.takeWhile dD).length=w.length:=by rw[<-h,List.length_take]
 rw[<-h,List.take_of_length_le (by omega)]
theorem CC{b:Bytes}(h:cY b∈DIGITWORDS):wordAt b=cY b:=by
 obtain⟨h1,h2,h3⟩:=gn _ h
 have e:=L8 rfl h2
 have⟨t1,t2⟩:=Kn e
 unfold wordAt
 have:DIGITWORDS.find? (fun(w:Bytes)=>b.take w.length==w&& !((b.drop w.length).take 1).any fun(c:UInt8)=>isTail c||isDigit c)=some (cY b):=by
  cases hf:DIGITWORDS.find? (fun(w:Bytes)=>b.take w.length==w&& !((b.drop w.length).take 1).any fun(c:UInt8)=>isTail c||isDigit c)with
  |none=>
   exfalso
   have:=List.find?_eq_none.mp hf _ h
   simp only[t1,beq_self_eq_true,Bool.true_and]at this
   exact this (by rw[show(((b.drop (cY b).length).take 1).any fun(c:UInt8)=>isTail c||isDigit c)=false from t2];rfl)
  |some w=>
   have hm:=List.mem_of_find?_eq_some hf
   have hp:=List.find?_some hf
   simp only[Bool.and_eq_true,beq_iff_eq,Bool.not_eq_true']at hp
   have:=An hp.1 (gn w hm).1 hp.2
   rw[e]at this
   rw[this]
 rw[this]
theorem C5{c:UInt8}{r:Bytes}(h:cY (c::r)∉DIGITWORDS)(hc:isLetter c=true):wordAt (c::r)=(c::r).takeWhile isTail:=by
 unfold wordAt
 have:DIGITWORDS.find? (fun(w:Bytes)=>(c::r).take w.length==w&& !(((c::r).drop w.length).take 1).any fun(c:UInt8)=>isTail c||isDigit c)=none:=by
  refine List.find?_eq_none.mpr fun w hm hp=>h ?_
  simp only[Bool.and_eq_true,beq_iff_eq,Bool.not_eq_true']at hp
  have e:=An hp.1 (gn w hm).1 hp.2
  have e2:cY (c::r)=w:=by
   have e':(c::r).takeWhile dD=w:=e
   unfold cY
   rw[e',List.take_of_length_le (by have:=(gn w hm).2.1;omega)]
  rw[e2];exact hm
 rw[this]
 have ht:isTail c=true:=by unfold isTail;rw[hc];rfl
 simp only[hc,if_true]
 rw[List.takeWhile_cons,if_pos ht]
end Wm
end
section
set_option Elab.async false
set_option linter.all false
set_option maxRecDepth 100000
set_option maxHeartbeats 2000000
namespace Wale
open PySem PySem.Spec PyProof.Rows L2
open Wm (xW t8 xa k6 aM aj ay)
open LsWale (blanks isByte)
variable {P:Program}{w:World}{K:PySem.W.Frag}{mg:Str->Option Value}{base:Heap}{a:Ad}
theorem kR{X:Cx}{e:Expr}{te:TE}{p pos:Pos}(hm:X.mg "len"=none)(he:PE X e te)(hg:Gl X "len":=by rfl)(hst:starEach [e] X.env=[(false,eval e X.env)]:=by rfl):
  PE X (.Call (.Name "len" p) [e] [] pos) (pV (fun xs H Q=>∃p ys,xs=[.ref p]/\(aO X.K H p ys\/fo X.K H p ys)/\Q (.int ys.length) H) (bO te d9)):=
 mI wN hg hm PySem.boot_len (ae he ag hst) (by decide) (by decide) hst rfl
theorem fM{i j:Int}:decide (V.int i=V.int j)=decide (i=j):=by by_cases h:i=j<;>simp[h]
def L9(K:PySem.W.Frag)(a:Ad):Sp:=fun vs H Q E=>∃(t:Addr)(b:Bytes)(p:Nat),vs=[.ref t,.int p]/\aO K H t (nums b)/\(∃c,b[p]? =some c/\c.toNat=35)/\
 (∀q:Nat,p<q->q<=b.length->q+blanks false (b.drop q)=p+blanks true (b.drop p)->Q (.int q) H)/\
 ∀c,b[p+blanks true (b.drop p)]? =some c->isByte c=false->Told K a E 1 (p+blanks true (b.drop p):Nat)
theorem yd:aI ["t","start","place"] ["t","start"] (aD xf):=⟨rfl,rfl,rfl,by decide +kernel,rfl,by decide +kernel,by decide +kernel⟩
theorem JF(T:Tx P w K mg a):aB P w K mg base (a8 P w) 4 a.o9 a.qu ["t","start"] (L9 K a):=by
 refine T.A6.fn.bq yd (fun vs H Q E h=>?_) (fun cdv A outer s H vs Q E hr h=>?_)
 ·obtain⟨_,_,_,rfl,_⟩:=h;rfl
 obtain⟨t,b,p,rfl,hS,⟨c0,hc0,h35⟩,k1,k2⟩:=h
 refine⟨_,ai (aW (i:=2) yd.nd rfl (Or.inl rfl) (pv 1)) (ai (fD gW
   (PW.pt (lI (a4 j2 (pv 2) (kR T.gM (pv 0)) (aX _)) (pL (a4 jC (eh fk (pv 0) (pv 2) (fun _ _=>rfl)) (cy T.D1) (aX _)))))
   (ai (a7 (PW.pt (iq (a4 j2 (eh fk (pv 0) (pv 2) (fun _ _=>rfl)) (cy T.E2) (aX _)) (iM (a4 jf (eh fk (pv 0) (pv 2) (fun _ _=>rfl)) (cy T.EY) (aX _)))))
     (ak (eL rfl eP T.qv (Ca T) T.yK.2 (hr.mono (by decide)) (pv 2))) bj)
    (ak (qz (i:=2) yd.nd rfl (Or.inl rfl) bN og))))
  (ak (aK (pv 2)))),?_⟩
 refine⟨_,rfl,?_⟩
 refine fG (fun(q:Nat)σ H'=>H'=H/\σ=[some (.ref t),some (.int p),some (.int q)]/\p<=q/\q<=b.length/\q+blanks true (b.drop q)=p+blanks true (b.drop p)) (fun q=>b.length-q) p
  ⟨rfl,rfl,Nat.le_refl _,Nat.le_of_lt (List.getElem?_eq_some_iff.mp hc0).1,rfl⟩ ?_
 rintro q σ H' ⟨rfl,rfl,l1,l2,e⟩
 refine⟨_,rfl,_,rfl,t,_,rfl,.inl hS,_,_,rfl,rfl,_,rfl,?_⟩
 refine aT (fun c=>?_) (fun c=>?_)
 ·rw[eK]at c
  have lt:q<b.length:=by have:=of_decide_eq_true c;omega
  obtain⟨cb,hcb⟩:∃c,b[q]? =some c:=⟨_,List.getElem?_eq_getElem lt⟩
  refine⟨_,rfl,_,rfl,t,_,_,_,rfl,rfl,hS,fi hcb,rfl,_,rfl,?_⟩
  rw[fM]
  refine aT (fun c2=>?_) (fun c2=>?_)
  ·have n10:cb.toNat≠10:=fun z=>by rw[z]at c2;exact absurd c2 (by decide)
   refine fg ?_
   refine⟨_,rfl,_,rfl,t,_,_,_,rfl,rfl,hS,fi hcb,_,_,rfl,rfl,_,rfl,?_⟩
   have bt:=t8 hcb
   rw[if_neg n10]at bt
   refine aT (fun c3=>?_) (fun c3=>?_)
   ·have hb:isByte cb=false:=Bool.eq_false_iff.mpr fun z=>by
     have:=of_decide_eq_true c3
     rcases(k6 cb).mp z with z|z<;>omega
    rw[if_neg (by rw[hb];decide)]at bt
    refine⟨_,rfl,d6 T.qv ?_⟩
    have eq:q=p+blanks true (b.drop p):=by omega
    rw[eq]
    exact k2 cb (by rw[<-eq];exact hcb) hb
   ·refine⟨_,rfl,_,rfl,t,_,_,_,rfl,rfl,hS,fi hcb,_,_,rfl,rfl,_,rfl,?_⟩
    refine aT (fun c4=>?_) (fun c4=>?_)
    ·have hb:isByte cb=false:=Bool.eq_false_iff.mpr fun z=>by
      have:=of_decide_eq_true c4
      rcases(k6 cb).mp z with z|z<;>omega
     rw[if_neg (by rw[hb];decide)]at bt
     refine⟨_,rfl,d6 T.qv ?_⟩
     have eq:q=p+blanks true (b.drop p):=by omega
     rw[eq]
     exact k2 cb (by rw[<-eq];exact hcb) hb
    ·have h3:¬((cb.toNat:Int)<32):=fun z=>c3 (decide_eq_true z)
     have h4:¬((126:Int)<cb.toNat):=fun z=>c4 (decide_eq_true z)
     have hb:isByte cb=true:=(k6 cb).mpr (.inr ⟨by omega,by omega⟩)
     rw[if_pos hb]at bt
     refine⟨_,rfl,_,_,rfl,rfl,q+1,by omega,rfl,?_,by omega,lt,by omega⟩
     rfl
  ·have n10:cb.toNat=10:=by
    have:=Bool.eq_false_iff.mpr c2
    simp only[Bool.not_eq_false',decide_eq_true_eq]at this
    omega
   have bt:=t8 hcb
   have bf:=xW hcb
   rw[if_pos n10]at bt
   rw[if_pos (.inl n10)]at bf
   refine⟨_,rfl,k1 q ?_ l2 (by omega)⟩
   refine Nat.lt_of_le_of_ne l1 fun z=>?_
   rw[<-z,hc0]at hcb
   cases hcb
   omega
 ·rw[eK]at c
  have ge:b.length<=q:=by
   have:¬((q:Int)<b.length):=fun z=>c (decide_eq_true z)
   omega
  refine⟨_,rfl,k1 q ?_ l2 (by rw[xa ge]at e ⊢;exact e)⟩
  have:=(List.getElem?_eq_some_iff.mp hc0).1
  omega
def KC(K:PySem.W.Frag)(a:Ad):Sp:=fun vs H Q E=>∃(t:Addr)(b:Bytes)(p:Nat),vs=[.ref t,.int p]/\aO K H t (nums b)/\p<=b.length/\Q (.int (aM b p:Nat)) H/\
 ∀c,b[aM b p]? =some c->isByte c=false->Told K a E 1 (aM b p:Nat)
theorem qV:aI ["t","start","place"] ["t","start"] (aD ym):=⟨rfl,rfl,rfl,by decide +kernel,rfl,by decide +kernel,by decide +kernel⟩
theorem FN(T:Tx P w K mg a):aB P w K mg base (a8 P w) 5 a.pz a.o5 ["t","start"] (KC K a):=by
 refine T.Av.fn.bq qV (fun vs H Q E h=>?_) (fun cdv A outer s H vs Q E hr h=>?_)
 ·obtain⟨_,_,_,rfl,_⟩:=h;rfl
 obtain⟨t,b,p,rfl,hS,hp,k1,k2⟩:=h
 refine⟨_,ai (aW (i:=2) qV.nd rfl (Or.inl rfl) (pv 1)) (ai (fD gW (a4 j2 (pv 2) (kR T.gM (pv 0)) (aX _))
   (ak (a7 (a4 b9 (eh fk (pv 0) (pv 2) (fun _ _=>rfl)) (cy T.IY) (aX _))
    (ak (aW (i:=2) qV.nd rfl (Or.inl rfl) (aS T.A6 (JF T) hr au (ae (pv 0) (ae (pv 2) ag)))))
    (ak (a7 (PW.pt (iq (a4 b9 (eh fk (pv 0) (pv 2) (fun _ _=>rfl)) (cy T.D1) (aX _)) (iM (a4 b9 (eh fk (pv 0) (pv 2) (fun _ _=>rfl)) (cy T.IA) (aX _)))))
     (ak (qz (i:=2) qV.nd rfl (Or.inl rfl) bN og)) (ak (aK (pv 2))))))))
  (ak (aK (pv 2)))),?_⟩
 refine⟨_,rfl,?_⟩
 refine fG (fun(q:Nat)σ H'=>H'=H/\σ=[some (.ref t),some (.int p),some (.int q)]/\q<=b.length/\q+blanks false (b.drop q)=aM b p) (fun q=>b.length-q) p ⟨rfl,rfl,hp,rfl⟩ ?_
 rintro q σ H' ⟨rfl,rfl,l2,e⟩
 refine⟨_,rfl,_,rfl,t,_,rfl,.inl hS,_,_,rfl,rfl,_,rfl,?_⟩
 refine aT (fun c=>?_) (fun c=>?_)
 ·rw[eK]at c
  have lt:q<b.length:=by have:=of_decide_eq_true c;omega
  obtain⟨cb,hcb⟩:∃c,b[q]? =some c:=⟨_,List.getElem?_eq_getElem lt⟩
  have bf:=xW hcb
  refine fg ?_
  refine⟨_,rfl,_,rfl,t,_,_,_,rfl,rfl,hS,fi hcb,rfl,_,rfl,?_⟩
  rw[fM]
  refine aT (fun c2=>?_) (fun c2=>?_)
  ·have h35:cb.toNat=35:=by have:=of_decide_eq_true c2;omega
   rw[if_neg (by omega),if_pos h35]at bf
   have bt:=t8 hcb
   rw[if_neg (by omega),if_pos ((k6 cb).mpr (.inr ⟨by omega,by omega⟩))]at bt
   have eq:q+blanks true (b.drop q)=aM b p:=by omega
   refine⟨_,rfl,_,rfl,t,b,q,rfl,hS,⟨cb,hcb,h35⟩,fun r r1 r2 r3=>?_,fun c hc hb=>?_⟩
   ·exact⟨r,by omega,rfl,rfl,r2,by omega⟩
   ·rw[eq]at hc ⊢
    exact k2 c hc hb
  ·have h35:cb.toNat≠35:=fun z=>c2 (decide_eq_true (by omega))
   refine⟨_,rfl,_,rfl,t,_,_,_,rfl,rfl,hS,fi hcb,rfl,_,rfl,?_⟩
   rw[fM]
   have go:(cb.toNat=10\/cb.toNat=32)->q+1+blanks false (b.drop (q+1))=aM b p:=fun z=>by
    rw[if_pos z]at bf;omega
   refine aT (fun c3=>?_) (fun c3=>?_)
   ·have z:cb.toNat=10:=by have:=of_decide_eq_true c3;omega
    refine⟨_,rfl,_,_,rfl,rfl,q+1,by omega,rfl,rfl,lt,go (.inl z)⟩
   ·have n10:cb.toNat≠10:=fun z=>c3 (decide_eq_true (by omega))
    refine⟨_,rfl,_,rfl,t,_,_,_,rfl,rfl,hS,fi hcb,rfl,_,rfl,?_⟩
    rw[fM]
    refine aT (fun c4=>?_) (fun c4=>?_)
    ·have z:cb.toNat=32:=by have:=of_decide_eq_true c4;omega
     exact⟨_,rfl,_,_,rfl,rfl,q+1,by omega,rfl,rfl,lt,go (.inr z)⟩
    ·have n32:cb.toNat≠32:=fun z=>c4 (decide_eq_true (by omega))
     rw[if_neg (by omega),if_neg h35]at bf
     refine⟨_,rfl,?_⟩
     rw[show(q:Int)=(aM b p:Nat) by omega]
     exact k1
 ·rw[eK]at c
  have ge:b.length<=q:=by
   have:¬((q:Int)<b.length):=fun z=>c (decide_eq_true z)
   omega
  refine⟨_,rfl,?_⟩
  rw[xa ge]at e
  rw[show(q:Int)=(aM b p:Nat) by omega]
  exact k1
end Wale
end
section
set_option Elab.async false
set_option linter.all false
set_option maxRecDepth 100000
set_option maxHeartbeats 2000000
namespace Wale
open PySem PySem.Spec PyProof.Rows L2
open Wm
open LsWale (blanks isByte isLetter isDigit isTail valueOf isNumber DIGITWORDS wordAt oneToken KEYWORDS PLAINS isName)
variable {P:Program}{w:World}{K:PySem.W.Frag}{mg:Str->Option Value}{base:Heap}{a:Ad}
def bT(C:Addr)(H:Hp)(x:Addr)(kd tx:Str)(n pl af:Int):Prop:=∃dx fs,H x=some (.ins C dx fs)/\fs.lookup ("kind":Str)=some (.str kd)/\fs.lookup ("text":Str)=some (.str tx)/\fs.lookup ("number":Str)=some (.int n)/\
 fs.lookup ("place":Str)=some (.int pl)/\fs.lookup ("after":Str)=some (.int af)
def j1(C:Addr):Sp:=fun vs H Q _=>∃(x dx:Addr)(kd tx:Str)(n pl af:Int),vs=[.ref x,.str kd,.str tx,.int n,.int pl,.int af]/\H x=some (.ins C dx [])/\
 ∀H':Hp,bT C H' x kd tx n pl af->(∀b o,H b=some o->b≠x->H' b=some o)->Q .aw H'
theorem Jy:aI ["self","kind","text","number","place","after"] ["self","kind","text","number","place","after"] (aD vi):=⟨rfl,rfl,rfl,by decide +kernel,rfl,by decide +kernel,by decide +kernel⟩
theorem rH(f:Str)(v:V)(fs:List (Str×V))(n:Nat)(h:fs.length<=n):(cn f v fs).length<=n+1:=Nat.le_trans (vp f v fs) (Nat.succ_le_succ h)
theorem pN{f:Str}{v:V}{fs:List (Str×V)}:(cn f v fs).lookup f=some v:=by rw[oi,if_pos rfl]
theorem gT{f g:Str}{v:V}{fs:List (Str×V)}(h:g≠f):(cn f v fs).lookup g=fs.lookup g:=by rw[oi,if_neg h]
theorem K2(T:Tx P w K mg a):aB P w K mg base bx 1 a.j4 a.mr ["self","kind","text","number","place","after"] (j1 a.bG):=by
 refine T.Bm.1.ok Jy (fun vs H Q E h=>?_) (fun cdv A outer s H vs Q E hr h=>?_)
 ·obtain⟨_,_,_,_,_,_,_,rfl,_⟩:=h;rfl
 obtain⟨x,dx,kd,tx,n,pl,af,rfl,hx,k⟩:=h
 refine⟨_,ai (cU (pv 0) (pv 1) rfl) (ai (cU (pv 0) (pv 2) rfl) (ai (cU (pv 0) (pv 3) rfl) (ai (cU (pv 0) (pv 4) rfl) (ak (cU (pv 0) (pv 5) rfl))))),?_⟩
 have C:=T.bo.cl
 refine⟨_,rfl,_,rfl,x,_,dx,_,rfl,hx,C,T.j0,(by show 0<1000;decide),?_⟩
 have l1:=rH "kind" (.str kd) [] 0 (Nat.le_refl _)
 have l2:=rH "text" (.str tx) _ 1 l1
 have l3:=rH "number" (.int n) _ 2 l2
 have l4:=rH "place" (.int pl) _ 3 l3
 refine⟨_,rfl,_,rfl,x,_,dx,_,rfl,az,C,T.bV,(by omega),?_⟩
 refine⟨_,rfl,_,rfl,x,_,dx,_,rfl,az,C,T.pw,(by omega),?_⟩
 refine⟨_,rfl,_,rfl,x,_,dx,_,rfl,az,C,T.gf,(by omega),?_⟩
 refine⟨_,rfl,_,rfl,x,_,dx,_,rfl,az,C,T.CW,(by omega),?_⟩
 refine k _ ⟨dx,_,az,?_,?_,?_,?_,?_⟩ fun b o e hb=>by rw[ao hb,ao hb,ao hb,ao hb,ao hb];exact e
 ·rw[gT (by decide +kernel),gT (by decide +kernel),gT (by decide +kernel),gT (by decide +kernel),pN]
 ·rw[gT (by decide +kernel),gT (by decide +kernel),gT (by decide +kernel),pN]
 ·rw[gT (by decide +kernel),gT (by decide +kernel),pN]
 ·rw[gT (by decide +kernel),pN]
 ·rw[pN]
theorem mD{X:Cx}{e1 e2 e3 e4 e5:Expr}{t1 t2 t3 t4 t5:TE}{p pos:Pos}(T:Tx X.prog X.w X.K X.mg a)(hr:bp 2 X.A)(h1:PE X e1 t1)(h2:PE X e2 t2)(h3:PE X e3 t3)(h4:PE X e4 t4)(h5:PE X e5 t5)(hg:Gl X "Token":=by rfl)
  (s1:starEach [e1,e2,e3,e4,e5] X.env=[(false,eval e1 X.env),(false,eval e2 X.env),(false,eval e3 X.env),(false,eval e4 X.env),(false,eval e5 X.env)]:=by rfl)
  (s2:starEach [e2,e3,e4,e5] X.env=[(false,eval e2 X.env),(false,eval e3 X.env),(false,eval e4 X.env),(false,eval e5 X.env)]:=by rfl) (s3:starEach [e3,e4,e5] X.env=[(false,eval e3 X.env),(false,eval e4 X.env),(false,eval e5 X.env)]:=by rfl)
  (s4:starEach [e4,e5] X.env=[(false,eval e4 X.env),(false,eval e5 X.env)]:=by rfl) (s5:starEach [e5] X.env=[(false,eval e5 X.env)]:=by rfl):
  PE X (.Call (.Name "Token" p) [e1,e2,e3,e4,e5] [] pos) (kE a.bG (j1 a.bG) [] E0 (bO t1 (bO t2 (bO t3 (bO t4 (bO t5 d9)))))):=
 eA T.bo.dU (K2 T) hr hg T.bo.at_ T.Bm.2 .nil a3
  (ae h1 (ae h2 (ae h3 (ae h4 (ae h5 ag s5) (by rw[s4,s5])) (by rw[s3,s4])) (by rw[s2,s3])) (by rw[s1,s2])) (by decide) (by rw[s1,s2]) (by rw[s2];rfl)
def Made(a:Ad)(H:Hp)(Q:VK)(kd tx:Str)(n pl af:Int):Prop:=∀(x:Addr)(H':Hp),aN H H'->H x=none->bT a.bG H' x kd tx n pl af->Q (.ref x) H'
theorem kg{H H1:Hp}{Q:VK}{kd tx:Str}{n pl af:Int}(h:Made a H Q kd tx n pl af)(hs:aN H H1):∀x dx,H1 x=none->H1 dx=none->dx≠x->
  j1 a.bG (.ref x::([.str kd,.str tx,.int n,.int pl,.int af]++[])) (upd (upd H1 dx (.own x)) x (.ins a.bG dx [])) (fun v H2=>v=.aw/\Q (.ref x) H2) E0:=
 fun x dx n1 n2 ne=>⟨x,dx,kd,tx,n,pl,af,rfl,az,fun H' tk kp=>⟨rfl,h x H' (hs.trans (aN.made n1 n2 kp)) (hs.free n1) tk⟩⟩
end Wale
end
section
set_option Elab.async false
set_option linter.all false
set_option maxRecDepth 100000
set_option maxHeartbeats 2000000
namespace Wale
open PySem PySem.Spec PyProof.Rows L2
open Wm
open LsWale (blanks isByte isLetter isDigit isTail valueOf isNumber DIGITWORDS wordAt oneToken KEYWORDS PLAINS isName)
variable {P:Program}{w:World}{K:PySem.W.Frag}{mg:Str->Option Value}{base:Heap}{a:Ad}
theorem y0(c:UInt8):digit (c.toNat:Int)=isDigit c:=by
 rw[Bool.eq_iff_iff,qR]
 simp only[digit,Bool.and_eq_true,decide_eq_true_eq]
 omega
theorem yL(c:UInt8):i7 (c.toNat:Int)=isLetter c:=by
 rw[Bool.eq_iff_iff,rK]
 simp only[i7,Bool.and_eq_true,decide_eq_true_eq]
 omega
theorem wk(c:UInt8):j3 (c.toNat:Int)=dD c:=by
 rw[Bool.eq_iff_iff]
 unfold dD
 rw[Bool.or_eq_true,y4,qR]
 simp only[j3,i7,digit,Bool.or_eq_true,Bool.and_eq_true,decide_eq_true_eq]
 omega
def cG(b:Bytes)(p:Nat):Bytes:=(b.drop p).takeWhile isDigit
def JS(K:PySem.W.Frag)(a:Ad):Sp:=fun vs H Q E=>∃(t:Addr)(b:Bytes)(p:Nat),vs=[.ref t,.int p]/\aO K H t (nums b)/\(∃c,b[p]? =some c/\isDigit c=true)/\
 (isNumber (cG b p)=true->Made a H Q "number" "" (valueOf (cG b p)) p (p+(cG b p).length:Nat))/\(isNumber (cG b p)=false->Told K a E 2 p)
theorem m5:aI ["t","place","after","number","begun_with_zero"] ["t","place"] (aD we):=⟨rfl,rfl,rfl,by decide +kernel,rfl,by decide +kernel,by decide +kernel⟩
theorem Ld:bootBuiltins "min"=some (.builtin "min"):=by kernel_rfl
theorem Jd{b:Bytes}{p:Nat}{c:UInt8}(hc:b[p]? =some c)(hd:isDigit c=true):isNumber (cG b p)=true↔¬(c.toNat=48/\1<(cG b p).length)/\valueOf (cG b p)<=1048576:=by
 have h1:(cG b p).head?=some c:=by unfold cG;rw[drop_cons hc,List.takeWhile_cons,if_pos hd];rfl
 have h2:1<=(cG b p).length:=by unfold cG;rw[drop_cons hc,List.takeWhile_cons,if_pos hd,List.length_cons];omega
 unfold isNumber
 rw[h1,Bool.and_eq_true,Bool.or_eq_true,decide_eq_true_eq,beq_iff_eq,bne_iff_ne]
 have e:(some c≠some (48:UInt8))↔c.toNat≠48:=by
  rw[Ne,Option.some_inj,<-UInt8.toNat_inj];rfl
 rw[e]
 show(_/\valueOf (cG b p)<=1048576)↔_
 omega
theorem HP(T:Tx P w K mg a):aB P w K mg base (a8 P w) 4 a.pQ a.oY ["t","place"] (JS K a):=by
 refine T.zg.fn.bq m5 (fun vs H Q E h=>?_) (fun cdv A outer s H vs Q E hr h=>?_)
 ·obtain⟨_,_,_,rfl,_⟩:=h;rfl
 obtain⟨t,b,p,rfl,hS,⟨c0,hc0,hd0⟩,k1,k2⟩:=h
 have hr1:bp 1 _:=hr.mono (by decide)
 refine⟨_,ai (aW (i:=2) m5.nd rfl (Or.inl rfl) (pv 1)) (ai (aW (i:=3) m5.nd rfl (Or.inl rfl) bN) (ai (fD gW
   (PW.pt (lI (a4 j2 (pv 2) (kR T.gM (pv 0)) (aX _)) (pL (di (aS T.oS (qP T) hr1 a3 (ae (eh fk (pv 0) (pv 2) (fun _ _=>rfl)) ag))))))
   (ai (aW (i:=3) m5.nd rfl (Or.inl rfl) (mI (Jj rfl) rfl T.KA Ld (ae (fC vJ (fC iX (fC GZ (pv 3) bN) (eh fk (pv 0) (pv 2) (fun _ _=>rfl))) (cy T.qX)) (ae (fC iX (cy T.BL) bN) ag))))
    (ak (qz (i:=2) m5.nd rfl (Or.inl rfl) bN og))))
  (ai (aW (i:=4) m5.nd rfl (Or.inl rfl) (BZ (jq b9 (eh fk (pv 0) (pv 1) (fun _ _=>rfl)) (cy T.qX) (aX _)) (sf (jq jf (pv 2) (fC iX (pv 1) bN) (aX _)))))
  (ai (a7 (PW.pt (iq (di (pv 4)) (iM (a4 jf (pv 3) (cy T.BL) (aX _)))))
    (ak (eL rfl eP T.xu (Ks T) T.Dq.2 (hr.mono (by decide)) (pv 1))) bj)
  (ak (aK (mD T (hr.mono (by decide)) (bB T.qW) aQ (pv 3) (pv 1) (pv 2)))))))),?_⟩
 refine⟨_,rfl,?_⟩
 refine fG (fun(i:Nat)σ H'=>H'=H/\σ=[some (.ref t),some (.int p),some (.int (p+i:Nat)),some (.int (min (valueOf ((b.drop p).take i)) 1048577:Nat)),none]/\p+i<=b.length/\i+run isDigit b (p+i)=run isDigit b p)
  (fun i=>b.length-i) 0 ⟨rfl,rfl,Nat.le_of_lt (List.getElem?_eq_some_iff.mp hc0).1,by simp⟩ ?_
 rintro i σ H' ⟨rfl,rfl,l2,e⟩
 -- behind the loop
 have fin:i=run isDigit b p->ki (rE (CU (dP AH (dP (zE K) (bA 0) (bA 1)) (tC (.int 48))) (dP (gA fun i j=>.bl (decide (j<i))) (bA 2) (dP (gA fun i j=>.int (i+j)) (bA 1) (tC (.int 1))))) (qi 4))
   (ki (tV (rB (tB (bA 4)) (gS (dP (gA fun i j=>.bl (decide (j<i))) (bA 3) (tC (.int 1048576))))) (k9 s.heap.objs.size K a.jL E 2 (bA 1)) sI)
    (mJ (kE a.bG (j1 a.bG) [] E0 (bO (tC (.str "number")) (bO (tC (.str "")) (bO (bA 3) (bO (bA 1) (bO (bA 2) d9)))))))) {nx:=fun x H'=>Q .aw H',rt:=Q}
   [some (.ref t),some (.int p),some (.int (p+i:Nat)),some (.int (min (valueOf ((b.drop p).take i)) 1048577:Nat)),none] H':=fun hi=>by
  have hds:(b.drop p).take i=cG b p:=by rw[hi];exact qQ isDigit _
  have hlen:(cG b p).length=i:=hi.symm
  rw[hds]
  have hnum:=Jd hc0 hd0
  refine⟨_,rfl,_,rfl,t,_,_,_,rfl,rfl,hS,fi hc0,rfl,_,rfl,?_⟩
  rw[fM]
  -- the two ways end alike
  have done:∀z:Bool,(z=true↔(c0.toNat=48/\1<i))->ki (tV (rB (tB (bA 4)) (gS (dP (gA fun i j=>.bl (decide (j<i))) (bA 3) (tC (.int 1048576))))) (k9 s.heap.objs.size K a.jL E 2 (bA 1)) sI)
    (mJ (kE a.bG (j1 a.bG) [] E0 (bO (tC (.str "number")) (bO (tC (.str "")) (bO (bA 3) (bO (bA 1) (bO (bA 2) d9))))))) {nx:=fun x H'=>Q .aw H',rt:=Q}
    [some (.ref t),some (.int p),some (.int (p+i:Nat)),some (.int (min (valueOf (cG b p)) 1048577:Nat)),some (.bl z)] H':=fun z hz=>by
   refine⟨_,rfl,_,rfl,?_⟩
   refine aT (fun c=>?_) (fun c=>?_)
   ·refine⟨_,rfl,d6 T.xu (k2 (Bool.eq_false_iff.mpr fun y=>?_))⟩
    rw[hnum,hlen]at y
    exact y.1 (hz.mp c)
   ·refine⟨_,rfl,_,_,rfl,rfl,_,rfl,?_⟩
    refine aT (fun c2=>?_) (fun c2=>?_)
    ·refine⟨_,rfl,d6 T.xu (k2 (Bool.eq_false_iff.mpr fun y=>?_))⟩
     rw[hnum]at y
     have:=of_decide_eq_true c2
     omega
    ·have h2:¬((1048576:Int)<(min (valueOf (cG b p)) 1048577:Nat)):=fun y=>c2 (decide_eq_true y)
     have hv:valueOf (cG b p)<=1048576:=by omega
     have hm:min (valueOf (cG b p)) 1048577=valueOf (cG b p):=by omega
     rw[hm]
     refine⟨_,rfl,_,rfl,_,rfl,?_⟩
     have km:=k1 (hnum.mpr ⟨fun y=>c (hz.mpr (by rw[hlen]at y;exact y)),hv⟩)
     rw[hlen]at km
     exact kg km (aN.refl _)
  refine aT (fun c=>?_) (fun c=>?_)
  ·refine⟨_,rfl,_,rfl,_,_,rfl,rfl,_,_,rfl,rfl,?_⟩
   refine done _ ?_
   have:=of_decide_eq_true c
   rw[decide_eq_true_eq]
   omega
  ·refine done _ ?_
   have:¬((c0.toNat:Int)=48):=fun z=>c (decide_eq_true z)
   simp
   omega
 refine⟨_,rfl,_,rfl,t,_,rfl,.inl hS,_,_,rfl,rfl,_,rfl,?_⟩
 refine aT (fun c=>?_) (fun c=>?_)
 ·rw[eK]at c
  have lt:p+i<b.length:=by have:=of_decide_eq_true c;omega
  obtain⟨cb,hcb⟩:∃c,b[p+i]? =some c:=⟨_,List.getElem?_eq_getElem lt⟩
  have rc:=yn (f:=isDigit) hcb
  refine⟨_,rfl,_,rfl,t,_,_,_,rfl,rfl,hS,fi hcb,_,rfl,_,rfl,?_⟩
  rw[y0]
  refine aT (fun c2=>?_) (fun c2=>?_)
  ·rw[if_pos c2]at rc
   refine fg ?_
   refine⟨_,rfl,_,_,rfl,rfl,.inl ⟨by omega,by omega⟩,_,rfl,_,rfl,t,_,_,_,rfl,rfl,hS,fi hcb,_,_,rfl,rfl,_,_,rfl,rfl,_,_,rfl,rfl,_,_,rfl,?_⟩
   refine⟨_,rfl,_,_,rfl,rfl,i+1,by omega,rfl,?_,by omega,by rw[<-Nat.add_assoc];omega⟩
   have h48:=(qR cb).mp c2
   have hdr:(b.drop p)[i]? =some cb:=by rw[List.getElem?_drop];exact hcb
   rw[take_snoc hdr,Mf]
   have cs:=MG (valueOf ((b.drop p).take i)) (cb.toNat-48)
   have e1:(if(1048576:Int)+1<(min (valueOf ((b.drop p).take i)) 1048577:Nat)*10+(cb.toNat:Int)-48 then(1048576:Int)+1 else(min (valueOf ((b.drop p).take i)) 1048577:Nat)*10+(cb.toNat:Int)-48)=
     ((min (10*valueOf ((b.drop p).take i)+(cb.toNat-48)) 1048577:Nat):Int):=by
    rw[<-cs]
    split<;>omega
   have e2:((p+i:Nat):Int)+1=((p+(i+1):Nat):Int):=by omega
   show[some (V.ref t),some (V.int p),some (V.int (((p+i:Nat):Int)+1)),_,none]=_
   rw[e2]
   exact congrArg (fun z=>[some (V.ref t),some (V.int p),some (V.int ((p+(i+1):Nat):Int)),some (V.int z),none]) e1
  ·rw[if_neg c2]at rc
   exact fin (by omega)
 ·rw[eK]at c
  have ge:b.length<=p+i:=by
   have:¬(((p+i:Nat):Int)<b.length):=fun z=>c (decide_eq_true z)
   omega
  have rc:=vd (f:=isDigit) ge
  exact fin (by omega)
end Wale
end
section
set_option Elab.async false
set_option linter.all false
set_option maxRecDepth 100000
set_option maxHeartbeats 2000000
namespace Wale
open PySem PySem.Spec PyProof.Rows L2
open Wm
open LsWale (blanks isByte isLetter isDigit isTail valueOf isNumber DIGITWORDS wordAt oneToken KEYWORDS PLAINS isName)
variable {P:Program}{w:World}{K:PySem.W.Frag}{mg:Str->Option Value}{base:Heap}{a:Ad}
theorem yP:∀{x y:Bytes},x.map UInt8.toNat=y.map UInt8.toNat->x=y
 |[],[],_=>rfl
 |[],_::_,h=>by cases h
 |_::_,[],h=>by cases h
 |c::r,d::s,h=>by
  rw[List.map_cons,List.map_cons]at h
  obtain⟨h1,h2⟩:=List.cons.inj h
  rw[UInt8.toNat_inj.mp h1,yP h2]
theorem qF{x y:Bytes}(h:strOf x=strOf y):x=y:=by
 unfold strOf at h
 have h1:=congrArg (fun z:Str=>z.cps.toList) h
 exact yP h1
theorem A1(x:Bytes):(strOf x).length=x.length:=by
 show((x.map UInt8.toNat).toArray).size=_
 rw[List.size_toArray,List.length_map]
theorem m8(x:Bytes)(l:List Bytes):dH (.str (strOf x)) ((l.map strOf).map V.str)=l.contains x:=by
 unfold dH
 induction l with
 |nil=>rfl
 |cons y r ih=>
  rw[List.map_cons,List.map_cons,List.any_cons,ih,List.contains_cons]
  congr 1
  show decide (strOf y=strOf x)=(x==y)
  rw[Bool.eq_iff_iff,decide_eq_true_eq,beq_iff_eq]
  exact⟨fun h=>(qF h).symm,fun h=>by rw[h]⟩
theorem Dh:∀(l:List Str),(l.map V.str).all iI=true
 |[]=>rfl
 |_::r=>by rw[List.map_cons,List.all_cons,Dh r];rfl
def mH(l:List Str)(d:Addr):R2:=fun x y H Q=>y=.ref d/\∃z,x=.str z/\Q (.bl (dH (.str z) (l.map V.str))) H
theorem JH{X:Cx}{x:Str}{l:List Str}{d:Addr}(h:hW X.K X.mg x l d):cN X (compareOp .In) (mH l d):=by
 intro pins s σ H x y u v Q I rx ry ⟨e1,z,e2,q⟩
 exact pJ pins s σ H x y u v Q I rx ry ⟨d,l.map V.str,e1,.inr (h.2 H),by rw[e2];rfl,Dh l,by rw[e2];exact q⟩
theorem kP{X:Cx}{e:Expr}{te:TE}{x:Str}{l:List Str}{d:Addr}{p pos:Pos}(h:hW X.K X.mg x l d)(he:PE X e te)(hg:Gl X x:=by rfl)(hd:(x==("__debug__":Str))=false:=by decide)(hm:behindInMarks .In (.Name x p)=false:=by with_unfolding_all rfl):
  PT X (.Compare e [.In] [.Name x p] pos) (gS (dP (mH l d) te (tC (.ref d)))):=a4 (JH h) he (oE hg h.1 (show RelV (.ref d) (.ref d)from rfl) hd) hm
theorem A2:(["k","p","ktbl","ptbl","yo","k2tog","k3tog","ssk","sssk","p2tog","ssp","cdd","kfb","pfb","kp","m1l","m1r","sl","slf","pso","even","co","bo"]:List Str)=PLAINS.map strOf:=by decide +kernel
theorem FH:(["pattern","sizes","yarns","let","word","block","on","round","row","rs","ws","repeat","until","work","off","to","end","last","mark","cl","cr","hold","take","yarn","pass","clear","turn","fasten"]:List Str)=
  (KEYWORDS.take 28).map strOf:=by decide +kernel
theorem He:(["k2tog","k3tog","p2tog","m1l","m1r"]:List Str)=DIGITWORDS.map strOf:=by decide +kernel
theorem LS:KEYWORDS=KEYWORDS.take 28++PLAINS:=by decide +kernel
theorem KG(x:Bytes):(PLAINS.contains x||(KEYWORDS.take 28).contains x)=KEYWORDS.contains x:=by
 conv=>rhs;rw[LS]
 rw[Bool.eq_iff_iff]
 simp only[Bool.or_eq_true,List.contains_iff_mem,List.mem_append]
 exact⟨fun h=>h.symm,fun h=>h.symm⟩
theorem Ju:∀x∈DIGITWORDS,KEYWORDS.contains x=true:=by decide +kernel
theorem Cp:strOf []=("":Str):=by decide +kernel
def F8(K:PySem.W.Frag):Sp:=fun vs H Q _=>∃(t:Addr)(b:Bytes)(p:Nat),vs=[.ref t,.int p]/\aO K H t (nums b)/\p<=b.length/\b.length<=20000/\
 ∀H',aN H H'->Q (.str (if cY (b.drop p)∈DIGITWORDS then strOf (cY (b.drop p))else "")) H'
theorem ra:aI ["t","place","after","text"] ["t","place"] (aD wy):=⟨rfl,rfl,rfl,by decide +kernel,rfl,by decide +kernel,by decide +kernel⟩
theorem CM{b:Bytes}{p q:Nat}(h1:p<=q)(h2:q<=b.length):jk (nums b) (some (p:Int)) (some (q:Int))=nums ((b.drop p).take (q-p)):=by
 unfold jk
 rw[eK,HT.Cz,HT.Cz,show min p b.length=p by omega,show min q b.length=q by omega]
 unfold nums
 rw[List.map_take,List.map_drop]
theorem Lf(T:Tx P w K mg a):aB P w K mg base bx 4 a.pS a.oa ["t","place"] (F8 K):=by
 refine T.zc.fn.ok ra (fun vs H Q E h=>?_) (fun cdv A outer s H vs Q E hr h=>?_)
 ·obtain⟨_,_,_,rfl,_⟩:=h;rfl
 obtain⟨t,b,p,rfl,hS,hp,hl,k⟩:=h
 refine⟨_,ai (aW (i:=2) ra.nd rfl (Or.inl rfl) (pv 1)) (ai (fD PassesOwn.never
   (PW.pt (lI (a4 j2 (pv 2) (kR T.gM (pv 0)) (aX _)) (lI (a4 o7 (pv 2) (fC iX (pv 1) (cy T.ET)) (aX _))
    (pL (di (aS T.DZ (JE T) (hr.mono (by decide)) a3 (ae (eh fk (pv 0) (pv 2) (fun _ _=>rfl)) ag)))))))
   (ak (qz (i:=2) ra.nd rfl (Or.inl rfl) bN og)))
  (ai (aW (i:=3) ra.nd rfl (Or.inl rfl) (aS T.spelled (zm T) hr a3 (ae (CF B9 (pv 0) (tL (pv 1)) (tL (pv 2))) ag)))
  (ak (aK (Af (kP T.J3 (pv 3)) (pv 3) aQ))))),?_⟩
 refine⟨_,rfl,?_⟩
 refine fG (fun(i:Nat)σ H'=>H'=H/\σ=[some (.ref t),some (.int p),some (.int (p+i:Nat)),none]/\p+i<=b.length/\i<=6/\i+run dD b (p+i)=run dD b p) (fun i=>b.length-i) 0 ⟨rfl,rfl,hp,by omega,by simp⟩ ?_
 rintro i σ H' ⟨rfl,rfl,l2,l6,e⟩
 have fin:i=min 6 (run dD b p)->ki (rE (qp (wV K) [] E0 (bO (xC (yf K) (bA 0) (qf (bA 1)) (qf (bA 2))) d9)) (qi 3))
   (mJ (AB (gS (dP (mH ["k2tog","k3tog","p2tog","m1l","m1r"] a.kY) (bA 3) (tC (.ref a.kY)))) (bA 3) (tC (.str "")))) {nx:=fun x H'=>Q .aw H',rt:=Q}
   [some (.ref t),some (.int p),some (.int (p+i:Nat)),none] H':=fun hi=>by
  have ei:(b.drop p).take i=cY (b.drop p):=by
   unfold cY
   rw[hi,<-qQ dD (b.drop p),List.take_take]
   congr 1
  refine⟨_,rfl,_,rfl,_,rfl,_,rfl,_,rfl,t,_,rfl,hS,fun q hq=>?_⟩
  have sq:aN H' (upd H' q (.lst (jk (nums b) (some (p:Int)) (some ((p+i:Nat):Int))))):=fun x o e=>by rw[ao (eS e hq)];exact e
  refine⟨q,cY (b.drop p),rfl,aO.of ?_,fun c hc=>?_,?_,fun H2 s2=>?_⟩
  ·rw[az,CM (by omega) l2,Nat.add_sub_cancel_left,ei]
  ·rw[wk]
   exact Df c (List.mem_of_mem_take hc)
  ·unfold cY
   rw[List.length_take];omega
  ·refine⟨_,rfl,rfl,_,rfl,_,rfl,?_⟩
   rw[He,m8]
   have kk:=k H2 (sq.trans s2)
   refine aT (fun c=>?_) (fun c=>?_)
   ·rw[if_pos (List.contains_iff_mem.mp c)]at kk
    exact⟨_,rfl,kk⟩
   ·rw[if_neg (fun z=>c (List.contains_iff_mem.mpr z))]at kk
    exact kk
 refine⟨_,rfl,_,rfl,t,_,rfl,.inl hS,_,_,rfl,rfl,_,rfl,?_⟩
 refine aT (fun c=>?_) (fun c=>?_)
 ·rw[eK]at c
  have lt:p+i<b.length:=by have:=of_decide_eq_true c;omega
  obtain⟨cb,hcb⟩:∃c,b[p+i]? =some c:=⟨_,List.getElem?_eq_getElem lt⟩
  have rc:=yn (f:=dD) hcb
  refine⟨_,rfl,_,rfl,_,_,rfl,rfl,_,_,rfl,rfl,_,rfl,?_⟩
  refine aT (fun c2=>?_) (fun c2=>?_)
  ·have l5:i<=5:=by have:=of_decide_eq_true c2;omega
   refine⟨_,rfl,_,rfl,t,_,_,_,rfl,rfl,hS,fi hcb,_,rfl,_,rfl,?_⟩
   rw[wk]
   refine aT (fun c3=>?_) (fun c3=>?_)
   ·rw[if_pos c3]at rc
    refine fg ?_
    refine⟨_,rfl,_,_,rfl,rfl,i+1,by omega,rfl,?_,by omega,by omega,by rw[<-Nat.add_assoc];omega⟩
    have e2:((p+i:Nat):Int)+1=((p+(i+1):Nat):Int):=by omega
    exact congrArg (fun z=>[some (V.ref t),some (V.int p),some (V.int z),none]) e2
   ·rw[if_neg c3]at rc
    exact fin (by omega)
  ·have l5:¬(((p+i:Nat):Int)<=p+5):=fun z=>c2 (decide_eq_true z)
   have l1:1<=run dD b (p+i)\/run dD b (p+i)=0:=by omega
   exact fin (by omega)
 ·rw[eK]at c
  have ge:b.length<=p+i:=by
   have:¬(((p+i:Nat):Int)<b.length):=fun z=>c (decide_eq_true z)
   omega
  have rc:=vd (f:=dD) ge
  exact fin (by omega)
end Wale
end
section
set_option Elab.async false
set_option linter.all false
set_option maxRecDepth 100000
set_option maxHeartbeats 2000000
namespace Wale
open PySem PySem.Spec PyProof.Rows L2
open Wm
open LsWale (blanks isByte isLetter isDigit isTail valueOf isNumber DIGITWORDS wordAt oneToken KEYWORDS PLAINS isName)
variable {P:Program}{w:World}{K:PySem.W.Frag}{mg:Str->Option Value}{base:Heap}{a:Ad}
def dv(x:Bytes):Str:=if isName x=true then "name" else "fixed"
def Ls(K:PySem.W.Frag)(a:Ad):Sp:=fun vs H Q _=>∃(t:Addr)(b:Bytes)(p:Nat),vs=[.ref t,.int p]/\aO K H t (nums b)/\(∃c,b[p]? =some c/\isLetter c=true)/\b.length<=20000/\
 Made a H Q (dv (wordAt (b.drop p))) (strOf (wordAt (b.drop p))) 0 p (p+(wordAt (b.drop p)).length:Nat)
theorem oj:aI ["t","place","digit_word","after","text"] ["t","place"] (aD yl):=⟨rfl,rfl,rfl,by decide +kernel,rfl,by decide +kernel,by decide +kernel⟩
theorem cA{x y:Str}:decide (V.str x=V.str y)=decide (x=y):=by by_cases h:x=y<;>simp[h]
theorem CY{H H1:Hp}{Q:VK}{kd tx:Str}{n pl af:Int}(h:Made a H Q kd tx n pl af)(hs:aN H H1):Made a H1 Q kd tx n pl af:=fun x H' s1 n1 tk=>h x H' (hs.trans s1) (hs.free n1) tk
theorem len_str{X:Cx}{e:Expr}{te:TE}{p pos:Pos}(hm:X.mg "len"=none)(he:PE X e te)(hg:Gl X "len":=by rfl)(hst:starEach [e] X.env=[(false,eval e X.env)]:=by rfl):
  PE X (.Call (.Name "len" p) [e] [] pos) (pV (fun xs H Q=>∃z,xs=[.str z]/\z.length<=sizeLine/\Q (.int z.length) H) (bO te d9)):=
 mI Iq hg hm PySem.boot_len (ae he ag hst) (by decide) (by decide) hst rfl
theorem IJ(c:UInt8):(i7 (c.toNat:Int)||decide ((c.toNat:Int)=95))=isTail c:=by
 rw[yL,Bool.eq_iff_iff,Bool.or_eq_true,y4,rK,decide_eq_true_eq]
 omega
theorem Je(T:Tx P w K mg a):aB P w K mg base bx 5 a.qA a.qw ["t","place"] (Ls K a):=by
 refine T.Cf.fn.ok oj (fun vs H Q E h=>?_) (fun cdv A outer s H vs Q E hr h=>?_)
 ·obtain⟨_,_,_,rfl,_⟩:=h;rfl
 obtain⟨t,b,p,rfl,hS,⟨c0,hc0,hl0⟩,hl,k⟩:=h
 have hp:p<b.length:=(List.getElem?_eq_some_iff.mp hc0).1
 have hr1:bp 1 _:=hr.mono (by decide)
 refine⟨_,ai (aW (i:=2) oj.nd rfl (Or.inl rfl) (aS T.zc (Lf T) hr a3 (ae (pv 0) (ae (pv 1) ag))))
  (ai (a7 (a4 jC (pv 2) aQ (aX _)) (ak (aK (mD T (hr.mono (by decide)) (bB T.uU) (pv 2) bN (pv 1) (fC iX (pv 1) (len_str T.gM (pv 2)))))) bj)
  (ai (aW (i:=3) oj.nd rfl (Or.inl rfl) (pv 1))
  (ai (fD PassesOwn.never (PW.pt (lI (a4 j2 (pv 3) (kR T.gM (pv 0)) (aX _))
    (pL (PW.pt (iq (di (aS T.pH (tF T) hr1 a3 (ae (eh fk (pv 0) (pv 3) (fun _ _=>rfl)) ag))) (iM (a4 b9 (eh fk (pv 0) (pv 3) (fun _ _=>rfl)) (cy T.zo) (aX _))))))))
   (ak (qz (i:=3) oj.nd rfl (Or.inl rfl) bN og)))
  (ai (aW (i:=4) oj.nd rfl (Or.inl rfl) (aS T.spelled (zm T) (hr.mono (by decide)) a3 (ae (CF B9 (pv 0) (tL (pv 1)) (tL (pv 3))) ag)))
  (ai (a7 (PW.pt (iq (kP T.DJ (pv 4)) (iM (kP T.Mq (pv 4))))) (ak (aK (mD T (hr.mono (by decide)) (bB T.uU) (pv 4) bN (pv 1) (pv 3)))) bj)
  (ak (aK (mD T (hr.mono (by decide)) (bB T.jj) (pv 4) bN (pv 1) (pv 3))))))))),?_⟩
 refine⟨_,rfl,_,rfl,t,b,p,rfl,hS,Nat.le_of_lt hp,hl,fun H1 s1=>?_⟩
 have k1:=CY k s1
 have hS1:=s1.seq hS
 refine⟨_,rfl,rfl,_,rfl,?_⟩
 rw[cA]
 have dc:=drop_cons hc0
 by_cases hd:cY (b.drop p)∈DIGITWORDS
 ·rw[if_pos hd]
  have hw:=CC hd
  rw[hw]at k1
  have ne:¬strOf (cY (b.drop p))="":=fun z=>by
   rw[<-Cp]at z
   have z1:=qF z
   have:=(gn _ hd).2.2
   rw[z1]at this
   simp at this
  refine aT (fun c=>?_) (fun c=>?_)
  ·have kf:dv (cY (b.drop p))="fixed":=by
    unfold dv isName
    rw[Ju _ hd];rfl
   rw[kf]at k1
   have l5:=(gn _ hd).2.1
   refine⟨_,rfl,_,rfl,_,rfl,_,rfl,_,rfl,by rw[A1,sizeLine_eq];omega,_,_,rfl,rfl,?_⟩
   rw[show((p+(cY (b.drop p)).length:Nat):Int)=(p:Int)+((strOf (cY (b.drop p))).length:Nat) by rw[A1];omega]at k1
   exact kg k1 (aN.refl _)
  ·exact absurd (by simpa using c) ne
 rw[if_neg hd]
 refine aT (fun c=>absurd c (by decide)) (fun c=>?_)
 have hw:wordAt (b.drop p)=(b.drop p).takeWhile isTail:=by
  rw[dc]at hd ⊢
  exact C5 hd hl0
 rw[hw]at k1
 refine⟨_,rfl,?_⟩
 refine fG (fun(i:Nat)σ H'=>H'=H1/\σ=[some (.ref t),some (.int p),some (.str ""),some (.int (p+i:Nat)),none]/\p+i<=b.length/\i+run isTail b (p+i)=run isTail b p) (fun i=>b.length-i) 0
  ⟨rfl,rfl,Nat.le_of_lt hp,by simp⟩ ?_
 rintro i σ H' ⟨rfl,rfl,l2,e⟩
 have fin:i=run isTail b p->ki (rE (qp (wV K) [] E0 (bO (xC (yf K) (bA 0) (qf (bA 1)) (qf (bA 3))) d9)) (qi 4))
   (ki (tV (rB (gS (dP (mH ["k","p","ktbl","ptbl","yo","k2tog","k3tog","ssk","sssk","p2tog","ssp","cdd","kfb","pfb","kp","m1l","m1r","sl","slf","pso","even","co","bo"] a.lB) (bA 4) (tC (.ref a.lB))))
     (gS (dP (mH ["pattern","sizes","yarns","let","word","block","on","round","row","rs","ws","repeat","until","work","off","to","end","last","mark","cl","cr","hold","take","yarn","pass","clear","turn","fasten"] a.lK) (bA 4) (tC (.ref a.lK)))))
    (mJ (kE a.bG (j1 a.bG) [] E0 (bO (tC (.str "fixed")) (bO (bA 4) (bO (tC (.int 0)) (bO (bA 1) (bO (bA 3) d9))))))) sI)
    (mJ (kE a.bG (j1 a.bG) [] E0 (bO (tC (.str "name")) (bO (bA 4) (bO (tC (.int 0)) (bO (bA 1) (bO (bA 3) d9)))))))) {nx:=fun x H'=>Q .aw H',rt:=Q}
   [some (.ref t),some (.int p),some (.str ""),some (.int (p+i:Nat)),none] H':=fun hi=>by
  have ei:(b.drop p).take i=(b.drop p).takeWhile isTail:=by rw[hi];exact qQ isTail _
  have ln:((b.drop p).takeWhile isTail).length=i:=hi.symm
  refine⟨_,rfl,_,rfl,_,rfl,_,rfl,_,rfl,t,_,rfl,hS1,fun q hq=>?_⟩
  have sq:aN H' (upd H' q (.lst (jk (nums b) (some (p:Int)) (some ((p+i:Nat):Int))))):=fun x o e=>by rw[ao (eS e hq)];exact e
  refine⟨q,(b.drop p).takeWhile isTail,rfl,aO.of ?_,fun c hc=>?_,?_,fun H2 s2=>?_⟩
  ·rw[az,CM (by omega) l2,Nat.add_sub_cancel_left,ei]
  ·rw[wk]
   unfold dD
   rw[Df c hc];rfl
  ·rw[ln];omega
  ·have k2:=CY k1 (sq.trans s2)
   rw[ln]at k2
   refine⟨_,rfl,rfl,_,rfl,_,rfl,?_⟩
   rw[A2,m8]
   have ko:=KG ((b.drop p).takeWhile isTail)
   refine aT (fun c=>?_) (fun c=>?_)
   ·rw[c,Bool.true_or]at ko
    have kf:dv ((b.drop p).takeWhile isTail)="fixed":=by unfold dv isName;rw[<-ko];rfl
    rw[kf]at k2
    exact⟨_,rfl,_,rfl,_,rfl,kg k2 (aN.refl _)⟩
   ·rw[Bool.eq_false_iff.mpr c,Bool.false_or]at ko
    refine⟨_,rfl,rfl,_,rfl,_,rfl,?_⟩
    rw[FH,m8]
    refine aT (fun c2=>?_) (fun c2=>?_)
    ·rw[c2]at ko
     have kf:dv ((b.drop p).takeWhile isTail)="fixed":=by unfold dv isName;rw[<-ko];rfl
     rw[kf]at k2
     exact⟨_,rfl,_,rfl,_,rfl,kg k2 (aN.refl _)⟩
    ·rw[Bool.eq_false_iff.mpr c2]at ko
     have kf:dv ((b.drop p).takeWhile isTail)="name":=by unfold dv isName;rw[<-ko];rfl
     rw[kf]at k2
     exact⟨_,rfl,_,rfl,_,rfl,kg k2 (aN.refl _)⟩
 refine⟨_,rfl,_,rfl,t,_,rfl,.inl hS1,_,_,rfl,rfl,_,rfl,?_⟩
 refine aT (fun c=>?_) (fun c=>?_)
 ·rw[eK]at c
  have lt:p+i<b.length:=by have:=of_decide_eq_true c;omega
  obtain⟨cb,hcb⟩:∃c,b[p+i]? =some c:=⟨_,List.getElem?_eq_getElem lt⟩
  have rc:=yn (f:=isTail) hcb
  have lt2:=IJ cb
  have nxt:isTail cb=true->∃j,b.length-j<b.length-i/\(H'=H'/\[some (V.ref t),some (V.int p),some (.str ""),some (V.int (((p+i:Nat):Int)+1)),none]=[some (.ref t),some (.int p),some (.str ""),some (.int (p+j:Nat)),none]/\p+j<=b.length/\j+run isTail b (p+j)=run isTail b p):=fun ht=>by
   rw[if_pos ht]at rc
   refine⟨i+1,by omega,rfl,?_,by omega,by rw[<-Nat.add_assoc];omega⟩
   have e2:((p+i:Nat):Int)+1=((p+(i+1):Nat):Int):=by omega
   exact congrArg (fun z=>[some (V.ref t),some (V.int p),some (.str ""),some (V.int z),none]) e2
  refine⟨_,rfl,_,rfl,t,_,_,_,rfl,rfl,hS1,fi hcb,_,rfl,_,rfl,?_⟩
  refine aT (fun c2=>?_) (fun c2=>?_)
  ·rw[c2,Bool.true_or]at lt2
   exact fg ⟨_,rfl,_,_,rfl,rfl,nxt lt2.symm⟩
  ·rw[Bool.eq_false_iff.mpr c2,Bool.false_or]at lt2
   refine⟨_,rfl,_,rfl,t,_,_,_,rfl,rfl,hS1,fi hcb,rfl,_,rfl,?_⟩
   rw[fM,lt2]
   refine aT (fun c3=>fg ⟨_,rfl,_,_,rfl,rfl,nxt c3⟩) (fun c3=>?_)
   rw[if_neg c3]at rc
   exact fin (by omega)
 ·rw[eK]at c
  have ge:b.length<=p+i:=by
   have:¬(((p+i:Nat):Int)<b.length):=fun z=>c (decide_eq_true z)
   omega
  have rc:=vd (f:=isTail) ge
  exact fin (by omega)
end Wale
end
section
set_option Elab.async false
set_option linter.all false
set_option maxRecDepth 100000
set_option maxHeartbeats 2000000
namespace Wale
open PySem PySem.Spec PyProof.Rows L2
open Wm
open LsWale (blanks isByte isLetter isDigit isTail valueOf isNumber DIGITWORDS wordAt oneToken KEYWORDS PLAINS isName)
variable {P:Program}{w:World}{K:PySem.W.Frag}{mg:Str->Option Value}{base:Heap}{a:Ad}
def AI(kvs:List (Key×V))(d:Addr):R2:=fun x y H Q=>y=.ref d/\∃k:Key,x=kV k/\Q (.bl (bJ kvs k).isSome) H
theorem Jk{X:Cx}{kvs:List (Key×V)}{d:Addr}(h:kC X.prog X.w X.K d kvs):cN X (compareOp .In) (AI kvs d):=by
 intro pins s σ H x y u v Q I rx ry ⟨e1,k,e2,q⟩
 subst e1 e2
 obtain rfl:v=Value.ref d:=ry
 obtain⟨vs,rel,dd⟩:=h.ok s.heap I.bh
 refine wpAny_in_of (nE rx) h.ns dd.mapOf ?_
 rw[<-(rel.val k).sA]
 exact⟨.bl (bJ kvs k).isSome,H,I.tok _,rfl,q⟩
theorem Mg{X:Cx}{e:Expr}{te:TE}{x:Str}{kvs:List (Key×V)}{d:Addr}{p pos:Pos}(h:X.mg x=some (.ref d)/\kC X.prog X.w X.K d kvs)(he:PE X e te)(hg:Gl X x:=by rfl)(hd:(x==("__debug__":Str))=false:=by decide)(hm:behindInMarks .In (.Name x p)=false:=by with_unfolding_all rfl):
  PT X (.Compare e [.In] [.Name x p] pos) (gS (dP (AI kvs d) te (tC (.ref d)))):=a4 (Jk h.2) he (oE hg h.1 (show RelV (.ref d) (.ref d)from rfl) hd) hm
def FO(kvs:List (Key×V))(ti:TE):TE:=fun σ H Q=>ti σ H fun y H1=>∃k v,y=kV k/\bJ kvs k=some v/\Q v H1
theorem DY{X:Cx}{i:Expr}{ti:TE}{x:Str}{kvs:List (Key×V)}{d:Addr}{p pos:Pos}(h:X.mg x=some (.ref d)/\kC X.prog X.w X.K d kvs)(hi:PE X i ti)(hs:zz i)(hg:Gl X x:=by rfl)(hd:(x==("__debug__":Str))=false:=by decide):
  PE X (.Subscript (.Name x p) i pos) (FO kvs ti):=by
 intro pins s σ H Q I hh
 refine JP PySem.F.slot_dict_getitem.lookup hs (hU I hg h.1 (aJ (hi pins s σ H _ I hh) fun iv s2⟨y,H2,I2,ry,k,v,ey,ev,q⟩=>?_) hd)
 subst ey
 obtain⟨vs,rel,dd⟩:=h.2.ok s2.heap I2.bh
 obtain⟨w',hw,rw'⟩:=cW.some_of (v:=v) (o:=valueAt vs k) (by rw[<-ev];exact rel.val k)
 refine⟨?_,wpAny_getItem_of (nE ry) dd.mapOf hw ⟨v,H2,I2.tok _,rw',q⟩⟩
 obtain⟨ob,_,_,h1,h2,_⟩:=dd
 exact⟨ob,h1,h2.1⟩
def eQ:LsWale.Tok->Str
 | .word x=>dv x
 | .num _=>"number"
 | .sign _=>"fixed"
 | .bad _=>""
 | .done=>"end"
def bc:LsWale.Tok->Str
 | .word x=>strOf x
 | .sign c=>strOf [c]
 |_=>""
def u6:LsWale.Tok->Nat
 | .num n=>n
 |_=>0
def LH(K:PySem.W.Frag)(a:Ad):Sp:=fun vs H Q E=>∃(t:Addr)(b:Bytes)(p:Nat),vs=[.ref t,.int p]/\aO K H t (nums b)/\p<=b.length/\b.length<=20000/\
 ((∀k,aj b p≠ .bad k)->Made a H Q (eQ (aj b p)) (bc (aj b p)) (u6 (aj b p)) (aM b p:Nat) (ay b p:Nat))/\∀k,aj b p=.bad k->Told K a E k (aM b p:Nat)
theorem yw:aI ["t","start","place","byte"] ["t","start"] (aD yh):=⟨rfl,rfl,rfl,by decide +kernel,rfl,by decide +kernel,by decide +kernel⟩
abbrev B4:List (Key×V):=[(.inl 40,.str "("),(.inl 41,.str ")"),(.inl 42,.str "*"),(.inl 43,.str "+"),(.inl 44,.str ","),(.inl 45,.str "-"),(.inl 47,.str "/"),(.inl 59,.str ";"),(.inl 61,.str "="),(.inl 91,.str "["),(.inl 93,.str "]"),(.inl 123,.str "{"),(.inl 125,.str "}")]
theorem Ff:∀n:Nat,n<256->bJ B4 (.inl (n:Int))=if LsWale.SIGNS.contains (UInt8.ofNat n)=true then some (.str (strOf [UInt8.ofNat n]))else none:=by decide +kernel
theorem signs_at(c:UInt8):bJ B4 (.inl (c.toNat:Int))=if LsWale.SIGNS.contains c=true then some (.str (strOf [c]))else none:=by
 have:=Ff c.toNat c.toNat_lt
 rw[UInt8.ofNat_toNat]at this
 exact this
theorem Il(T:Tx P w K mg a):aB P w K mg base (a8 P w) 6 a.oC a.nT ["t","start"] (LH K a):=by
 refine T.Bh.fn.bq yw (fun vs H Q E h=>?_) (fun cdv A outer s H vs Q E hr h=>?_)
 ·obtain⟨_,_,_,rfl,_⟩:=h;rfl
 obtain⟨t,b,p,rfl,hS,hp,hl,k1,k2⟩:=h
 have hr1:bp 1 _:=hr.mono (by decide)
 refine⟨_,ai (aW (i:=2) yw.nd rfl (Or.inl rfl) (aS T.Av (FN T) hr au (ae (pv 0) (ae (pv 1) ag))))
  (ai (a7 (a4 b9 (pv 2) (kR T.gM (pv 0)) (aX _)) (ak (aK (mD T (hr.mono (by decide)) (bB T.Ah) aQ bN (pv 2) (pv 2)))) bj)
  (ai (aW (i:=3) yw.nd rfl (Or.inl rfl) (eh fk (pv 0) (pv 2) (fun _ _=>rfl)))
  (ai (a7 (di (aS T.pH (tF T) hr1 a3 (ae (pv 3) ag))) (ak (aK (aS T.Cf (Je T) hr a3 (ae (pv 0) (ae (pv 2) ag))))) bj)
  (ai (a7 (di (aS T.oS (qP T) hr1 a3 (ae (pv 3) ag))) (ak (aK (aS T.zg (HP T) (hr.mono (by decide)) au (ae (pv 0) (ae (pv 2) ag))))) bj)
  (ai (a7 (Mg T.Di (pv 3)) (ak (aK (mD T (hr.mono (by decide)) (bB T.uU) (DY T.Di (pv 3) (fun _ _=>rfl)) bN (pv 2) (fC iX (pv 2) bN)))) bj)
  (ak (eL rfl eP T.qv (Ca T) T.yK.2 (hr.mono (by decide)) (pv 2)))))))),?_⟩
 refine⟨_,rfl,_,rfl,t,b,p,rfl,hS,hp,?_,fun c hc hb=>?_⟩
 rotate_left
 ·refine k2 1 ?_
  unfold aj
  rw[drop_cons hc]
  have hnb:¬(c.toNat=10\/(32<=c.toNat/\c.toNat<=126)):=fun z=>by rw[(k6 c).mpr z]at hb;cases hb
  unfold oneToken
  have nl:¬isLetter c=true:=fun z=>hnb (.inr (by have:=(rK c).mp z;omega))
  have nd:¬isDigit c=true:=fun z=>hnb (.inr (by have:=(qR c).mp z;omega))
  have ns:¬LsWale.SIGNS.contains c=true:=fun z=>by
   have:∀n:Nat,n<256->LsWale.SIGNS.contains (UInt8.ofNat n)=true->32<=n/\n<=126:=by decide +kernel
   have:=this c.toNat c.toNat_lt
   rw[UInt8.ofNat_toNat]at this
   exact hnb (.inr (this z))
  dsimp only
  rw[if_neg nl,if_neg nd,if_neg ns]
 have le:=C1 hp
 refine⟨_,rfl,_,rfl,t,_,rfl,.inl hS,rfl,_,rfl,?_⟩
 rw[fM,eK]
 refine aT (fun c=>?_) (fun c=>?_)
 ·have ge:b.length<=aM b p:=by have:=of_decide_eq_true c;omega
  have e1:aj b p=.done:=by unfold aj;rw[r5 ge];rfl
  have e2:ay b p=aM b p:=by unfold ay;rw[r5 ge];rfl
  have km:=k1 (fun k z=>by rw[e1]at z;cases z)
  rw[e1,e2]at km
  exact⟨_,rfl,_,rfl,kg km (aN.refl _)⟩
 ·have lt:aM b p<b.length:=by
   have:¬(((aM b p:Nat):Int)=b.length):=fun z=>c (decide_eq_true z)
   omega
  obtain⟨cb,hcb⟩:∃c,b[aM b p]? =some c:=⟨_,List.getElem?_eq_getElem lt⟩
  have dc:=drop_cons hcb
  have eo:oneToken (b.drop (aM b p))=if isLetter cb=true then(.word (wordAt (b.drop (aM b p))),(wordAt (b.drop (aM b p))).length)else if isDigit cb=true then(if isNumber (cG b (aM b p))=true then(.num (valueOf (cG b (aM b p))),(cG b (aM b p)).length)else(.bad 2,0))
    else if LsWale.SIGNS.contains cb=true then(.sign cb,1)else(.bad 1,0):=by
   unfold cG
   rw[dc];rfl
  refine⟨_,rfl,_,rfl,t,_,_,_,rfl,rfl,hS,fi hcb,?_⟩
  refine⟨_,rfl,_,rfl,_,rfl,?_⟩
  rw[yL]
  refine aT (fun c1=>?_) (fun c1=>?_)
  ·rw[if_pos c1]at eo
   have e1:aj b p=.word (wordAt (b.drop (aM b p))):=by unfold aj;rw[eo]
   have e2:ay b p=aM b p+(wordAt (b.drop (aM b p))).length:=by unfold ay;rw[eo]
   have km:=k1 (fun k z=>by rw[e1]at z;cases z)
   rw[e1,e2]at km
   exact⟨_,rfl,_,rfl,t,b,aM b p,rfl,hS,⟨cb,hcb,c1⟩,hl,km⟩
  rw[if_neg c1]at eo
  refine⟨_,rfl,_,rfl,_,rfl,?_⟩
  rw[y0]
  refine aT (fun c2=>?_) (fun c2=>?_)
  ·rw[if_pos c2]at eo
   refine⟨_,rfl,_,rfl,t,b,aM b p,rfl,hS,⟨cb,hcb,c2⟩,fun hn=>?_,fun hn=>?_⟩
   ·rw[if_pos hn]at eo
    have e1:aj b p=.num (valueOf (cG b (aM b p))):=by unfold aj;rw[eo]
    have e2:ay b p=aM b p+(cG b (aM b p)).length:=by unfold ay;rw[eo]
    have km:=k1 (fun k z=>by rw[e1]at z;cases z)
    rw[e1,e2]at km
    exact km
   ·rw[if_neg (by rw[hn];decide)]at eo
    exact k2 2 (by unfold aj;rw[eo])
  rw[if_neg c2]at eo
  refine⟨_,rfl,rfl,.inl (cb.toNat:Int),rfl,_,rfl,?_⟩
  rw[signs_at]
  by_cases hs:LsWale.SIGNS.contains cb=true
  ·rw[if_pos hs]
   rw[if_pos hs]at eo
   have e1:aj b p=.sign cb:=by unfold aj;rw[eo]
   have e2:ay b p=aM b p+1:=by unfold ay;rw[eo]
   have km:=k1 (fun k z=>by rw[e1]at z;cases z)
   rw[e1,e2]at km
   refine⟨_,rfl,.inl (cb.toNat:Int),.str (strOf [cb]),rfl,(by rw[signs_at,if_pos hs]),_,rfl,_,rfl,_,_,rfl,rfl,?_⟩
   exact kg km (aN.refl _)
  ·rw[if_neg hs]
   rw[if_neg hs]at eo
   exact⟨_,rfl,d6 T.qv (k2 1 (by unfold aj;rw[eo]))⟩
end Wale
end
section
set_option linter.all false
namespace Wm
open LsWale
abbrev aa(b:Bytes)(p:Nat)(e:Env):St:=⟨toks b p,e⟩
theorem dJ(b:Bytes)(p:Nat)(e:Env):(aa b p e).ts=⟨aM b p,aj b p⟩::behind (aj b p) (toks b (ay b p)):=tI b p
theorem i8(b:Bytes)(p:Nat)(e:Env):(aa b p e).place=aM b p:=by unfold St.place;rw[dJ]
theorem cE{b:Bytes}{p:Nat}{e:Env}(h:cv (aj b p)=true):(aa b p e).next=aa b (ay b p) e:=by
 unfold St.next
 rw[dJ,mC h]
 rfl
theorem zU{α:Type}[BEq α][LawfulBEq α][DecidableEq α](x y:α):(x==y)=decide (x=y):=by
 rw[Bool.eq_iff_iff,beq_iff_eq,decide_eq_true_eq]
theorem lj(b:Bytes)(p:Nat)(e:Env)(w:String):(aa b p e).isWord w=decide (aj b p=.word (ascii w)):=by
 unfold St.isWord
 rw[dJ]
 cases aj b p<;>simp[zU]
theorem fY(b:Bytes)(p:Nat)(e:Env)(c:Char):(aa b p e).isSign c=decide (aj b p=.sign (UInt8.ofNat c.toNat)):=by
 unfold St.isSign
 rw[dJ]
 cases aj b p<;>simp[zU]
theorem tU(b:Bytes)(p:Nat)(e:Env):(aa b p e).sums=match aj b p with
  | .num _=>true
  | .word x=>isName x
  |t=>decide (t=.sign 40):=by
 unfold St.sums
 rw[dJ]
 have hs:=fY b p e '('
 cases h:aj b p<;>simp only[]<;>rw[hs,h]<;>rfl
theorem Mz{α:Type}(b:Bytes)(p:Nat)(e:Env):(wanted (aa b p e):Except Fault α)=.error ⟨match aj b p with| .bad k=>k|_=>3,aM b p⟩:=by
 unfold wanted
 rw[dJ]
 cases aj b p<;>rfl
theorem eY{α:Type}{b:Bytes}{p:Nat}{e:Env}(h:∀k,aj b p≠ .bad k):(wanted (aa b p e):Except Fault α)=.error ⟨3,aM b p⟩:=by
 rw[Mz]
 cases q:aj b p with
 |bad k=>exact absurd q (h k)
 |_=>rfl
def HB(s:St)(k pl:Nat):Prop:=∃r,s.ts=⟨pl,.bad k⟩::r
theorem Eh{b:Bytes}{p k:Nat}{e:Env}(h:aj b p=.bad k):HB (aa b p e) k (aM b p):=⟨_,by rw[dJ,h]⟩
def bF{α:Type}(r:Except Fault (α×St))(k pl:Nat):Prop:=r=.error ⟨k,pl⟩\/∃x s,r=.ok (x,s)/\HB s k pl
def C3(r:Except Fault St)(k pl:Nat):Prop:=r=.error ⟨k,pl⟩\/∃s,r=.ok s/\HB s k pl
theorem c7{α:Type}{x:α}{s:St}{k pl:Nat}(h:HB s k pl):bF (.ok (x,s)) k pl:=.inr ⟨x,s,rfl,h⟩
theorem bF.bind{α β:Type}{r:Except Fault (α×St)}{f:α×St->Except Fault (β×St)}{k pl:Nat}(h:bF r k pl)(hf:∀x s,HB s k pl->bF (f (x,s)) k pl):bF (r>>=f) k pl:=by
 rcases h with h|⟨x,s,h,hb⟩
 ·rw[h];exact .inl rfl
 ·rw[h];exact hf x s hb
theorem C3.bind{β:Type}{r:Except Fault St}{f:St->Except Fault (β×St)}{k pl:Nat}(h:C3 r k pl)(hf:∀s,HB s k pl->bF (f s) k pl):bF (r>>=f) k pl:=by
 rcases h with h|⟨s,h,hb⟩
 ·rw[h];exact .inl rfl
 ·rw[h];exact hf s hb
theorem bF.map{α β:Type}{r:Except Fault (α×St)}{f:α×St->β×St}{k pl:Nat}(h:bF r k pl)(hf:∀x s,(f (x,s)).2=s):bF (r.map f) k pl:=by
 rcases h with h|⟨x,s,h,hb⟩
 ·rw[h];exact .inl rfl
 ·rw[h]
  refine .inr ⟨(f (x,s)).1,s,?_,hb⟩
  show Except.ok (f (x,s))=_
  exact congrArg Except.ok (Prod.ext rfl (hf x s))
section
variable {s:St}{k pl:Nat}
theorem jF{α:Type}(h:HB s k pl):(wanted s:Except Fault α)=.error ⟨k,pl⟩:=by
 obtain⟨r,h⟩:=h
 unfold wanted;rw[h]
theorem gg(h:HB s k pl)(w:String):s.isWord w=false:=by obtain⟨r,h⟩:=h;unfold St.isWord;rw[h]
theorem fP(h:HB s k pl)(c:Char):s.isSign c=false:=by obtain⟨r,h⟩:=h;unfold St.isSign;rw[h]
theorem Cb(h:HB s k pl):s.sums=false:=by
 have q:=fP h '('
 obtain⟨r,h⟩:=h
 unfold St.sums;rw[h];exact q
theorem tD(h:HB s k pl)(c:Char):eatSign c s=.error ⟨k,pl⟩:=by unfold eatSign;rw[if_neg (by rw[fP h];decide),jF h]
theorem zK(h:HB s k pl)(w:String):eatWord w s=.error ⟨k,pl⟩:=by unfold eatWord;rw[if_neg (by rw[gg h];decide),jF h]
theorem vF(h:HB s k pl)(c:Char)(d:Nat):eatOpen c d s=.error ⟨k,pl⟩:=by unfold eatOpen;rw[if_pos (fP h c),jF h]
theorem qJ(h:HB s k pl):anyName s=.error ⟨k,pl⟩:=by
 unfold anyName
 have q:=jF (α:=Bytes×St) h
 obtain⟨r,h⟩:=h
 rw[h];exact q
theorem KH(h:HB s k pl)(l:List Bytes):oldName l s=.error ⟨k,pl⟩:=by unfold oldName;rw[qJ h];rfl
theorem Gu(h:HB s k pl)(m n:Nat)(l:List Bytes):newName m n s l=.error ⟨k,pl⟩:=by unfold newName;rw[qJ h];rfl
theorem Ga(h:HB s k pl):markName s=.error ⟨k,pl⟩:=by unfold markName;rw[qJ h];rfl
theorem GF(h:HB s k pl):holdName s=.error ⟨k,pl⟩:=by unfold holdName;rw[qJ h];rfl
theorem Kk(h:HB s k pl):wideAt s=.error ⟨k,pl⟩:=by
 unfold wideAt
 have q:=jF (α:=Nat×St) h
 obtain⟨r,h⟩:=h
 rw[h];exact q
theorem HQ(h:HB s k pl)(d:Nat):a6 .fact d s=.error ⟨k,pl⟩:=by
 have q:=vF h '(' d
 obtain⟨r,h⟩:=h
 rw[DQ (by intro p n r' z;rw[h]at z;cases z) (by intro p n r' z;rw[h]at z;cases z),q];rfl
theorem vm(h:HB s k pl)(a:Sum)(d:Nat):a6 (.sumRest a) d s=.ok (a,s):=by rw[BM,fP h,fP h];rfl
theorem vr(h:HB s k pl)(a:Sum)(d:Nat):a6 (.prodRest a) d s=.ok (a,s):=by rw[Cj,fP h,fP h];rfl
theorem IW(h:HB s k pl)(d:Nat):iZ d s=.ok (.once,s):=by rw[tu,gg h,Cb h];rfl
theorem zL(h:HB s k pl):unitAt s=.error ⟨k,pl⟩:=by
 unfold unitAt
 have q:=jF (α:=Unit_×St) h
 obtain⟨r,h⟩:=h
 rw[h];exact q
theorem Fg(h:HB s k pl):loneAt s=none:=by unfold loneAt;simp only[gg h];rfl
theorem zh(h:HB s k pl)(d:Nat):eZ d s=.error ⟨k,pl⟩:=by
 unfold eZ fN
 rw[Fg h,fP h,zL h];rfl
theorem KW(h:HB s k pl)(d:Nat):cw d s=.error ⟨k,pl⟩:=by rw[ue,zh h];rfl
theorem LU(h:HB s k pl)(d:Nat):dS d s=none:=by unfold dS eR;simp only[gg h];rfl
theorem BG(h:HB s k pl)(d:Nat):cD d s=.ok (.nil,s):=by rw[uS,LU h]
theorem Fm(h:HB s k pl):dN s=none:=by unfold dN fE;simp only[gg h];rfl
theorem IQ(h:HB s k pl):jl s=.ok ([],s):=by rw[yz,Fm h]
end
def wf:Tok->Bool
 | .word x=>(match x with|c::_=>isLetter c|[]=>false)
 | .sign c=>SIGNS.contains c
 |_=>true
theorem HH{c:UInt8}{r:Bytes}(h:isLetter c=true):∃r',wordAt (c::r)=c::r':=by
 by_cases hd:cY (c::r)∈DIGITWORDS
 ·rw[CC hd]
  unfold cY
  have ht:dD c=true:=by unfold dD isTail;rw[h];rfl
  rw[List.takeWhile_cons,if_pos ht,List.take_succ_cons]
  exact⟨_,rfl⟩
 ·rw[C5 hd h]
  have ht:isTail c=true:=by unfold isTail;rw[h];rfl
  rw[List.takeWhile_cons,if_pos ht]
  exact⟨_,rfl⟩
theorem Hx(b:Bytes):wf (oneToken b).1=true:=by
 cases b with
 |nil=>rfl
 |cons c r=>
  unfold oneToken
  dsimp only
  by_cases hl:isLetter c=true
  ·rw[if_pos hl]
   obtain⟨r',e⟩:=HH (r:=r) hl
   show wf (.word (wordAt (c::r)))=true
   rw[e];exact hl
  ·rw[if_neg hl]
   by_cases hd:isDigit c=true
   ·rw[if_pos hd];split<;>rfl
   ·rw[if_neg hd]
    by_cases hs:SIGNS.contains c=true
    ·rw[if_pos hs];exact hs
    ·rw[if_neg hs];rfl
theorem yo(b:Bytes)(p:Nat):wf (aj b p)=true:=Hx _
end Wm
end
section
set_option linter.all false
namespace Wm
open LsWale
def cQ(e e':Env):Prop:=e'.sizes=e.sizes/\e'.yarns=e.yarns/\e'.lets=e.lets/\e'.words=e.words/\e'.blocks=e.blocks
theorem cQ.refl(e:Env):cQ e e:=⟨rfl,rfl,rfl,rfl,rfl⟩
theorem cQ.trans{a b c:Env}(h:cQ a b)(g:cQ b c):cQ a c:=
 ⟨g.1.trans h.1,g.2.1.trans h.2.1,g.2.2.1.trans h.2.2.1,g.2.2.2.1.trans h.2.2.2.1,g.2.2.2.2.trans h.2.2.2.2⟩
def Ke{α:Type}(e:Env)(r:Except Fault (α×St)):Prop:=∀x s,r=.ok (x,s)->cQ e s.env
def dm(e:Env)(r:Except Fault St):Prop:=∀s,r=.ok s->cQ e s.env
theorem jW{α:Type}{e:Env}{f:Fault}:Ke e (.error f:Except Fault (α×St)):=fun _ _ h=>by cases h
theorem bH{α:Type}{e:Env}{x:α}{s:St}(h:cQ e s.env):Ke e (.ok (x,s)):=fun _ _ q=>by cases q;exact h
theorem kT{α:Type}{e:Env}{s:St}:Ke e (wanted s:Except Fault (α×St)):=by
 obtain⟨f,h⟩:=iV (α:=α×St) s
 rw[h];exact jW
theorem Ke.bind{α β:Type}{e:Env}{r:Except Fault (α×St)}{f:α×St->Except Fault (β×St)}(h:∀x s,r=.ok (x,s)->Ke e (f (x,s))):Ke e (r>>=f):=by
 cases r with
 |error e=>exact jW
 |ok p=>obtain⟨x,s⟩:=p;exact h x s rfl
theorem dm.bind{β:Type}{e:Env}{r:Except Fault St}{f:St->Except Fault (β×St)}(h:∀s,r=.ok s->Ke e (f s)):Ke e (r>>=f):=by
 cases r with
 |error e=>exact jW
 |ok s=>exact h s rfl
theorem Ke.mono{α:Type}{e e':Env}{r:Except Fault (α×St)}(h:Ke e' r)(g:cQ e e'):Ke e r:=fun x s q=>g.trans (h x s q)
theorem gO{c:Char}{s:St}:dm s.env (eatSign c s):=by
 intro t h
 unfold eatSign at h
 split at h
 ·cases h;exact .refl _
 ·obtain⟨e,q⟩:=iV (α:=St) s;rw[q]at h;cases h
theorem Et{c:String}{s:St}:dm s.env (eatWord c s):=by
 intro t h
 unfold eatWord at h
 split at h
 ·cases h;exact .refl _
 ·obtain⟨e,q⟩:=iV (α:=St) s;rw[q]at h;cases h
theorem tw{c:Char}{d:Nat}{s:St}:dm s.env (eatOpen c d s):=by
 intro t h
 unfold eatOpen at h
 split at h
 ·obtain⟨e,q⟩:=iV (α:=St) s;rw[q]at h;cases h
 ·split at h
  ·cases h
  ·cases h;exact .refl _
theorem uC{s:St}:Ke s.env (anyName s):=by
 unfold anyName
 split
 ·split
  ·exact bH (.refl _)
  ·exact kT
 ·exact kT
theorem rq{l:List Bytes}{s:St}:Ke s.env (oldName l s):=by
 unfold oldName
 refine Ke.bind fun x t e=>?_
 have:=uC x t e
 dsimp only
 split
 ·exact jW
 ·exact bH this
theorem rT{s:St}:Ke s.env (markName s):=by
 unfold markName
 refine Ke.bind fun x t e=>?_
 have:=uC x t e
 dsimp only
 split
 ·exact bH this
 ·split
  ·exact jW
  ·exact bH this
theorem Bp{s:St}:Ke s.env (holdName s):=by
 unfold holdName
 refine Ke.bind fun x t e=>?_
 have:=uC x t e
 dsimp only
 split
 ·exact bH this
 ·split
  ·exact jW
  ·exact bH this
theorem fj:∀(f:Nat)(lv:Level)(d:Nat)(s:St),Ke s.env (sumAt f lv d s)
 |0,lv,d,s=>by rw[sumAt];exact kT
 |f+1,.sum,d,s=>by
  rw[sumAt]
  exact Ke.bind fun x t e=>(fj f _ d t).mono (fj f .prod d s x t e)
 |f+1,.prod,d,s=>by
  rw[sumAt]
  exact Ke.bind fun x t e=>(fj f _ d t).mono (fj f .fact d s x t e)
 |f+1,.sumRest a,d,s=>by
  rw[sumAt]
  split
  ·exact Ke.bind fun x t e=>(fj f _ d t).mono (fj f .prod d s.next x t e)
  ·exact bH (.refl _)
 |f+1,.prodRest a,d,s=>by
  rw[sumAt]
  split
  ·exact Ke.bind fun x t e=>(fj f _ d t).mono (fj f .fact d s.next x t e)
  ·exact bH (.refl _)
 |f+1,.fact,d,s=>by
  rw[sumAt]
  split
  ·exact bH (.refl _)
  ·exact Ke.bind fun x t e=>bH (rq x t e)
  ·refine dm.bind fun t e=>Ke.bind fun x u e1=>dm.bind fun v e2=>bH ?_
   exact((tw t e).trans (fj f .sum (d+1) t x u e1)).trans (gO v e2)
theorem BN(lv:Level)(d:Nat)(s:St):Ke s.env (a6 lv d s):=fj _ lv d s
theorem IS(f d:Nat)(s:St):Ke s.env (reachAt f d s):=by
 unfold reachAt
 split
 ·split
  ·exact bH (.refl _)
  ·split
   ·exact Ke.bind fun x t e=>bH (fj f .sum d s.next.next x t e)
   ·exact dm.bind fun t e=>Ke.bind fun x u e2=>bH ((Et t e).trans (rT x u e2))
 ·split
  ·exact Ke.bind fun x t e=>bH (fj f .sum d s x t e)
  ·exact bH (.refl _)
theorem CZ{s:St}:Ke s.env (wideAt s):=by
 unfold wideAt
 split
 ·split
  ·exact bH (.refl _)
  ·exact jW
 ·exact kT
theorem KI(s:St):Ke s.env (unitAt s):=by
 unfold unitAt
 split
 ·split
  ·exact bH (.refl _)
  ·split
   ·exact Ke.bind fun n t e=>dm.bind fun u e1=>Ke.bind fun m v e2=>bH (((show cQ s.env t.env from CZ (s:=s.next) n t e).trans (gO u e1)).trans (CZ m v e2))
   ·split
    ·exact Ke.bind fun x t e=>bH (show cQ s.env t.env from Bp (s:=s.next) x t e)
    ·exact Ke.bind fun x t e=>bH (rq x t e)
 ·exact kT
theorem Ke.map{α β:Type}{e:Env}{r:Except Fault (α×St)}{f:α×St->β×St}(h:Ke e r)(hf:∀x s,(f (x,s)).2=s):Ke e (r.map f):=by
 intro y t q
 obtain⟨⟨x,s⟩,e1,e2⟩:=Dj q
 have:=h x s e1
 have q:=hf x s
 rw[e2]at q
 simp only at q
 rw[q];exact this
theorem Gw{s:St}{g:Except Fault (Lone×St)}(h:loneAt s=some g):Ke s.env g:=by
 unfold loneAt at h
 split at h
 ·cases h;exact(show Ke s.env (holdName s.next)from Bp).map fun _ _=>rfl
 ·split at h
  ·cases h;exact(show Ke s.env (oldName _ s.next)from rq).map fun _ _=>rfl
  ·split at h
   ·cases h;exact(show Ke s.env (markName s.next)from rT).map fun _ _=>rfl
   ·split at h
    ·cases h;exact(show Ke s.env (markName s.next)from rT).map fun _ _=>rfl
    ·split at h
     ·cases h;exact(show Ke s.env (markName s.next)from rT).map fun _ _=>rfl
     ·split at h
      ·cases h;exact bH (.refl _)
      ·split at h
       ·cases h;exact bH (.refl _)
       ·cases h
theorem HA{I:Nat->St->Except Fault (Items×St)}{R:Nat->St->Except Fault (Reach×St)}(hI:∀d s,Ke s.env (I d s))(hR:∀d s,Ke s.env (R d s))(d:Nat)(s:St):Ke s.env (fN I R d s):=by
 unfold fN
 split
 ·rename_i g h;exact(Gw h).map fun _ _=>rfl
 ·split
  ·exact dm.bind fun t e=>Ke.bind fun l u e1=>dm.bind fun v e2=>Ke.bind fun r z e3=>bH ((((tw t e).trans (hI _ t l u e1)).trans (gO v e2)).trans (hR _ v r z e3))
  ·exact Ke.bind fun u t e=>Ke.bind fun r z e3=>bH ((KI s u t e).trans (hR _ t r z e3))
theorem sZ:∀(f d:Nat)(s:St),Ke s.env (itemsAt f d s)
 |0,d,s=>by rw[itemsAt];exact kT
 |f+1,d,s=>by
  rw[o8]
  refine Ke.bind fun x t e=>?_
  have h1:=HA (fun d s=>sZ f d s) (fun d s=>IS f d s) d s x t e
  dsimp only
  split
  ·exact Ke.bind fun l u e1=>bH (h1.trans (sZ f d t.next l u e1))
  ·exact bH h1
theorem Ms(d:Nat)(s:St):Ke s.env (cw d s):=sZ _ d s
theorem Ei{S:Nat->St->Except Fault (Sum×St)}{I:Nat->St->Except Fault (Items×St)}{T:Nat->St->Except Fault (Stats×St)}(hS:∀d s,Ke s.env (S d s))(hI:∀d s,Ke s.env (I d s))(hT:∀d s,Ke s.env (T d s))
  {d:Nat} {s:St} {g:Except Fault ((Stats->Stats)×St)} (h:eR S I T d s=some g):Ke s.env g:=by
 have rw_:cQ s.env (rowAt s).env:=by unfold rowAt;split<;>exact .refl _
 unfold eR at h
 split at h
 ·cases h
  refine Ke.bind fun x t e=>dm.bind fun u e2=>bH ?_
  have h1:cQ s.env t.env:=hS d s.next x t e
  have h2:=gO u e2
  dsimp only at h2
  split at h2
  ·exact h1.trans h2
  ·exact h1.trans h2
 ·split at h
  ·cases h
   exact Ke.bind fun x t e=>dm.bind fun u e2=>bH ((rw_.trans (hI _ _ x t e)).trans (gO u e2))
  ·split at h
   ·cases h
    exact Ke.bind fun x t e=>dm.bind fun u e2=>Ke.bind fun i v e3=>dm.bind fun z e4=>bH ((((show cQ s.env t.env from hS d s.next x t e).trans (tw u e2)).trans (hT _ _ i v e3)).trans (gO z e4))
   ·split at h
    ·cases h
     refine Ke.bind fun x t e=>?_
     have h1:cQ s.env t.env:=rq (s:=s.next) x t e
     dsimp only
     split
     ·exact Ke.bind fun y u e2=>dm.bind fun v e3=>bH ((h1.trans (hS _ _ y u e2)).trans (gO v e3))
     ·exact dm.bind fun v e3=>bH (h1.trans (gO v e3))
    ·split at h
     ·cases h
      exact dm.bind fun v e3=>bH (show cQ s.env v.env from gO (s:=s.next) v e3)
     ·cases h
theorem yc:∀(f d:Nat)(s:St),Ke s.env (statsAt f d s)
 |0,d,s=>by rw[statsAt];exact kT
 |f+1,d,s=>by
  rw[pW]
  unfold lJ
  split
  ·rename_i g h
   exact Ke.bind fun x t e=>Ke.bind fun r u e2=>bH ((Ei (fun d s=>fj f .sum d s) (fun d s=>sZ f d s) (fun d s=>yc f d s) h x t e).trans (yc f d t r u e2))
  ·exact bH (.refl _)
theorem Ex(d:Nat)(s:St):Ke s.env (cD d s):=yc _ d s
end Wm
end
section
set_option Elab.async false
set_option linter.all false
set_option maxRecDepth 100000
set_option maxHeartbeats 2000000
namespace Wale
open PySem PySem.Spec PyProof.Rows L2
open Wm
variable {P:Program}{w:World}{K:PySem.W.Frag}{mg:Str->Option Value}{base:Heap}{a:Ad}
inductive Kd where
 |sizes
 |yarns
 |eC
 |words
 |blocks
 |markers
 |holders
 deriving DecidableEq
def aZ:Kd->Str
 | .sizes=>"sizes"
 | .yarns=>"yarns"
 | .eC=>"numbers"
 | .words=>"words"
 | .blocks=>"blocks"
 | .markers=>"markers"
 | .holders=>"holders"
def bD:Kd->Nat
 | .sizes=>16
 | .yarns=>16
 | .eC=>256
 | .words=>64
 | .blocks=>64
 | .markers=>64
 | .holders=>16
def cV:Kd->Bool
 | .markers=>false
 | .holders=>false
 |_=>true
theorem sF{j k:Kd}(h:aZ j=aZ k):j=k:=by
 revert h
 cases j<;>cases k<;>first|exact fun _=>rfl|exact fun h=>absurd h (by decide +kernel)
theorem LJ(k:Kd):aZ k≠("":Str):=by cases k<;>decide +kernel
abbrev NL:=Kd->List Bytes
def de(L:NL)(k:Kd)(x:Bytes):NL:=fun j=>if j=k then L j++[x]else L j
def hG(L:NL):Nat:=(L .sizes).length+(L .yarns).length+(L .eC).length+(L .words).length+(L .blocks).length+(L .markers).length+(L .holders).length
theorem add_same{L:NL}{k:Kd}{x:Bytes}:de L k x k=L k++[x]:=if_pos rfl
theorem kJ{L:NL}{j k:Kd}{x:Bytes}(h:j≠k):de L k x j=L j:=if_neg h
theorem l9(L:NL)(k:Kd)(x:Bytes):hG (de L k x)=hG L+1:=by
 cases k<;>simp[hG,de]<;>omega
theorem Gf{L:NL}(h:∀k,(L k).length<=bD k):hG L<=496:=by
 have h1:=h .sizes
 have h2:=h .yarns
 have h3:=h .eC
 have h4:=h .words
 have h5:=h .blocks
 have h6:=h .markers
 have h7:=h .holders
 simp only[bD]at h1 h2 h3 h4 h5 h6 h7
 unfold hG
 omega
def j5(kvs:List (Key×V))(L:NL):Prop:=∀x v,bJ kvs (.inr (strOf x))=some v↔∃k,cV k=true/\v=.str (aZ k)/\x∈L k
def kG(kvs:List (List Key×V))(L:NL):Prop:=∀k x,cV k=false->((bJ kvs [.inr (aZ k),.inr (strOf x)]).isSome=true↔x∈L k)
def tY(kvs:List (Key×V))(L:NL):Prop:=∀k,(bJ kvs (.inr (aZ k))).getD (.int 0)=.int (L k).length
def rL(td sd ad:Addr):List (Str×V):=[("told",.ref td),("standing",.ref sd),("amounts",.ref ad)]
structure NA where
 n:Addr
 td:Addr
 sd:Addr
 ad:Addr
structure fw(a:Ad)(R:NA)(L:NL)(H:Hp):Prop where
 obj:∃dx,H R.n=some (.ins a.bY dx (rL R.td R.sd R.ad))
 fJ:∃kvs,H R.td=some (.dK kvs)/\j5 kvs L/\kvs.length<=hG L
 gI:∃kvs,H R.sd=some (.dT kvs)/\kG kvs L/\kvs.length<=hG L
 fL:∃kvs,H R.ad=some (.dK kvs)/\tY kvs L/\kvs.length<=hG L
 ne:R.td≠R.ad
 bd:∀k,(L k).length<=bD k
def gQ(R:NA)(H H':Hp):Prop:=∀b o,H b=some o->b≠R.td->b≠R.sd->b≠R.ad->H' b=some o
theorem Al{R:NA}{H H':Hp}(h:aN H H'):gQ R H H':=fun b o e _ _ _=>h b o e
theorem gQ.trans{R:NA}{H H1 H2:Hp}(h:gQ R H H1)(g:gQ R H1 H2):gQ R H H2:=fun b o e n1 n2 n3=>g b o (h b o e n1 n2 n3) n1 n2 n3
theorem aP{H:Hp}{p:Addr}{o:HO}(h:H p=none):aN H (upd H p o):=fun b ob e=>by
 rw[ao (fun z=>by rw[z,h]at e;cases e)]
 exact e
theorem fw.same{R:NA}{L:NL}{H H':Hp}(h:fw a R L H)(s:aN H H'):fw a R L H':=by
 obtain⟨⟨dx,e0⟩,⟨k1,e1,t1⟩,⟨k2,e2,t2⟩,⟨k3,e3,t3⟩,ne,bd⟩:=h
 exact⟨⟨dx,s _ _ e0⟩,⟨k1,s _ _ e1,t1⟩,⟨k2,s _ _ e2,t2⟩,⟨k3,s _ _ e3,t3⟩,ne,bd⟩
theorem bT.same{C:Addr}{H H':Hp}{x:Addr}{kd tx:Str}{n pl af:Int}(h:bT C H x kd tx n pl af)(s:aN H H'):bT C H' x kd tx n pl af:=by
 obtain⟨dx,fs,e,r⟩:=h
 exact⟨dx,fs,s _ _ e,r⟩
def zf(a:Ad):Sp:=fun vs H Q _=>∃(R:NA)(dx:Addr)(kvs:List (Key×V))(k:Str)(m:Int),vs=[.ref R.n,.str k]/\H R.n=some (.ins a.bY dx (rL R.td R.sd R.ad))/\H R.ad=some (.dK kvs)/\
 (bJ kvs (.inr k)).getD (.int 0)=.int m/\Q (.int m) H
theorem Jq:aI ["self","kind"] ["self","kind"] (aD uo):=⟨rfl,rfl,rfl,by decide +kernel,rfl,by decide +kernel,by decide +kernel⟩
theorem rF(T:Tx P w K mg a):aB P w K mg base bx 1 a.lD a.mf ["self","kind"] (zf a):=by
 refine T.eE.fn.ok Jq (fun vs H Q E h=>?_) (fun cdv A outer s H vs Q E hr h=>?_)
 ·obtain⟨_,_,_,_,_,rfl,_⟩:=h;rfl
 obtain⟨R,dx,kvs,k,m,rfl,e0,e1,em,q⟩:=h
 refine⟨_,ak (aK (yZ (jy hr) (aH (pv 0) rfl) (pv 1) bN ⟨rfl,rfl,rfl,rfl⟩)),?_⟩
 refine⟨_,rfl,R.n,_,dx,_,_,rfl,e0,T.cu.cl,T.tT,rfl,R.ad,rfl,.inl ⟨kvs,.inl e1⟩,_,rfl,_,fS.k (k:=.inr k) e1,?_⟩
 rw[em]
 exact q
def Mt(K:PySem.W.Frag)(a:Ad):Sp:=fun vs H Q E=>∃(R:NA)(L:NL)(k:Kd)(x:Addr)(kd tx:Str)(n pl af:Int),vs=[.ref R.n,.ref x,.str (aZ k)]/\fw a R L H/\bT a.bG H x kd tx n pl af/\
 ((L k).length≠bD k->Q .aw H)/\((L k).length=bD k->Told K a E 6 pl)
theorem GI:aI ["self","token","kind"] ["self","token","kind"] (aD yF):=⟨rfl,rfl,rfl,by decide +kernel,rfl,by decide +kernel,by decide +kernel⟩
theorem Iw(k:Kd):bJ ([(.inr "sizes",.int 16),(.inr "yarns",.int 16),(.inr "numbers",.int 256),(.inr "words",.int 64),(.inr "blocks",.int 64),(.inr "markers",.int 64),(.inr "holders",.int 16)]:List (Key×V)) (.inr (aZ k))=some (.int (bD k:Nat)):=by
 cases k<;>decide +kernel
theorem zF(T:Tx P w K mg a):aB P w K mg base (a8 P w) 4 a.p8 a.oG ["self","token","kind"] (Mt K a):=by
 refine T.pX.fn.bq GI (fun vs H Q E h=>?_) (fun cdv A outer s H vs Q E hr h=>?_)
 ·obtain⟨_,_,_,_,_,_,_,_,_,rfl,_⟩:=h;rfl
 obtain⟨R,L,k,x,kd,tx,n,pl,af,rfl,N,tk,q1,q2⟩:=h
 refine⟨_,ak (a7 (a4 b9 (aV (pv 0) T.cu.cl T.eE.mt (rF T) (hr.mono (by decide)) T.eE.bd .nil a3 (ae (pv 2) ag)) (DY T.Mm (pv 2) (fun _ _=>rfl)) (aX _))
  (ak (eL rfl eP T.ji (tf T) T.qc.2 (hr.mono (by decide)) (aH (pv 1) rfl))) bj),?_⟩
 obtain⟨dx,e0⟩:=N.obj
 obtain⟨kva,ea,ha,-⟩:=N.fL
 refine⟨_,rfl,R.n,dx,_,rfl,e0,rfl,_,rfl,R,dx,kva,aZ k,_,rfl,e0,ea,ha k,?_⟩
 refine⟨_,rfl,.inr (aZ k),_,rfl,Iw k,rfl,_,rfl,?_⟩
 rw[fM]
 refine aT (fun c=>?_) (fun c=>?_)
 ·obtain⟨dx1,fs,e,l1,l2,l3,l4,l5⟩:=tk
  exact⟨_,rfl,x,_,dx1,fs,_,rfl,e,T.bo.cl,T.gf,l4,d6 T.ji (q2 (by have:=of_decide_eq_true c;omega))⟩
 ·exact q1 fun z=>c (decide_eq_true (by rw[z]))
def dh(L:NL)(x:Bytes):Prop:=∀j,cV j=true->x∉L j
def Gb(K:PySem.W.Frag)(a:Ad):Sp:=fun vs H Q E=>∃(R:NA)(L:NL)(k:Kd)(x:Addr)(xb:Bytes)(kd:Str)(n pl af:Int),vs=[.ref R.n,.ref x,.str (aZ k)]/\fw a R L H/\bT a.bG H x kd (strOf xb) n pl af/\
 (¬dh L xb->Told K a E 5 pl)/\(dh L xb->(L k).length=bD k->Told K a E 6 pl)/\(dh L xb->(L k).length≠bD k->Q .aw H)
theorem LG:aI ["self","token","kind"] ["self","token","kind"] (aD xR):=⟨rfl,rfl,rfl,by decide +kernel,rfl,by decide +kernel,by decide +kernel⟩
theorem MH(T:Tx P w K mg a):aB P w K mg base (a8 P w) 5 a.pE a.pB ["self","token","kind"] (Gb K a):=by
 refine T.uP.fn.bq LG (fun vs H Q E h=>?_) (fun cdv A outer s H vs Q E hr h=>?_)
 ·obtain⟨_,_,_,_,_,_,_,_,_,rfl,_⟩:=h;rfl
 obtain⟨R,L,k,x,xb,kd,n,pl,af,rfl,N,tk,q1,q2,q3⟩:=h
 refine⟨_,ai (a7 (yN (zA (jy hr) (aH (pv 1) rfl) (aH (pv 0) rfl)) (by rfl))
  (ak (eL rfl eP T.mn (yk T) T.sh.2 (hr.mono (by decide)) (aH (pv 1) rfl))) bj)
  (ak (a0 (aV (pv 0) T.cu.cl T.pX.mt (zF T) hr T.pX.bd .nil au (ae (pv 1) (ae (pv 2) ag))))),?_⟩
 obtain⟨dx,e0⟩:=N.obj
 obtain⟨kvs,e1,h1,-⟩:=N.fJ
 have tk':=tk
 obtain⟨dx1,fs,e,l1,l2,l3,l4,l5⟩:=tk
 refine⟨_,rfl,x,_,dx1,fs,_,rfl,e,T.bo.cl,T.bV,l2,_,rfl,R.n,_,dx,_,_,rfl,e0,T.cu.cl,T.sJ,rfl,R.td,_,rfl,fS.k (k:=.inr (strOf xb)) e1,_,rfl,?_⟩
 cases hv:bJ kvs (.inr (strOf xb))with
 |some v=>
  obtain⟨j,hj,-,hm⟩:=(h1 xb v).mp hv
  exact b5 ⟨_,rfl,x,_,dx1,fs,_,rfl,e,T.bo.cl,T.gf,l4,d6 T.mn (q1 fun z=>z j hj hm)⟩
 |none=>
  have un:dh L xb:=fun j hj hm=>by
   have:=(h1 xb _).mpr ⟨j,hj,rfl,hm⟩
   rw[hv]at this
   cases this
  exact df ⟨_,rfl,R.n,dx,_,rfl,e0,rfl,_,rfl,_,rfl,R,L,k,x,kd,_,n,pl,af,rfl,N,tk',fun z=>q3 un z,fun z=>q2 un z⟩
def Hn(K:PySem.W.Frag)(a:Ad):Sp:=fun vs H Q E=>∃(R:NA)(L:NL)(k:Kd)(x:Addr)(xb:Bytes)(kd:Str)(n pl af:Int),vs=[.ref R.n,.ref x,.str (aZ k)]/\fw a R L H/\bT a.bG H x kd (strOf xb) n pl af/\cV k=true/\
 (xb∈L k->Q .aw H)/\(xb∉L k->Told K a E 4 pl)
theorem FQ:aI ["self","token","kind"] ["self","token","kind"] (aD v5):=⟨rfl,rfl,rfl,by decide +kernel,rfl,by decide +kernel,by decide +kernel⟩
theorem Gv(T:Tx P w K mg a):aB P w K mg base (a8 P w) 4 a.qj a.oh ["self","token","kind"] (Hn K a):=by
 refine T.u9.fn.bq FQ (fun vs H Q E h=>?_) (fun cdv A outer s H vs Q E hr h=>?_)
 ·obtain⟨_,_,_,_,_,_,_,_,_,rfl,_⟩:=h;rfl
 obtain⟨R,L,k,x,xb,kd,n,pl,af,rfl,N,tk,ht,q1,q2⟩:=h
 refine⟨_,ak (a7 (a4 jC (yZ (jy hr) (aH (pv 0) rfl) (aH (pv 1) rfl) aQ ⟨rfl,rfl,rfl,rfl⟩) (pv 2) (aX _))
  (ak (eL rfl eP T.zx (K6 T) T.zZ.2 (hr.mono (by decide)) (aH (pv 1) rfl))) bj),?_⟩
 obtain⟨dx,e0⟩:=N.obj
 obtain⟨kvs,e1,h1,-⟩:=N.fJ
 obtain⟨dx1,fs,e,l1,l2,l3,l4,l5⟩:=tk
 refine⟨_,rfl,R.n,_,dx,_,_,rfl,e0,T.cu.cl,T.sJ,rfl,R.td,rfl,.inl ⟨kvs,.inl e1⟩,_,rfl,x,_,dx1,fs,_,rfl,e,T.bo.cl,T.bV,l2,_,fS.k (k:=.inr (strOf xb)) e1,?_⟩
 have bad:∀lo,xb∉L k->k9 lo K a.m3 E 4 (mw K (bA 1) "place") {nx:=fun _ H'=>Q .aw H',rt:=Q} (L2.start ["self","token","kind"] [.ref R.n,.ref x,.str (aZ k)]) H:=fun lo hm=>
  ⟨_,rfl,x,_,dx1,fs,_,rfl,e,T.bo.cl,T.gf,l4,d6 T.zx (q2 hm)⟩
 cases hv:bJ kvs (.inr (strOf xb))with
 |some v=>
  obtain⟨j,hj,ev,hm⟩:=(h1 xb v).mp hv
  subst ev
  refine⟨_,rfl,rfl,_,rfl,?_⟩
  show if(!decide (V.str (aZ j)=V.str (aZ k)))=true then _ else _
  rw[cA]
  by_cases hjk:j=k
  ·subst hjk
   exact nV rfl (q1 hm)
  ·rw[decide_eq_false fun z=>hjk (sF z)]
   refine b5 (bad _ fun hm'=>hjk ?_)
   have:=(h1 xb _).mpr ⟨k,ht,rfl,hm'⟩
   rw[hv]at this
   exact sF (V.str.inj (Option.some.inj this))
 |none=>
  refine⟨_,rfl,rfl,_,rfl,?_⟩
  show if(!decide (V.str ""=V.str (aZ k)))=true then _ else _
  rw[cA,decide_eq_false fun z=>LJ k z.symm]
  refine b5 (bad _ fun hm'=>?_)
  have:=(h1 xb _).mpr ⟨k,ht,rfl,hm'⟩
  rw[hv]at this
  cases this
end Wale
end
section
set_option Elab.async false
set_option linter.all false
set_option maxRecDepth 100000
set_option maxHeartbeats 2000000
namespace Wale
open PySem PySem.Spec PyProof.Rows L2
open Wm
variable {P:Program}{w:World}{K:PySem.W.Frag}{mg:Str->Option Value}{base:Heap}{a:Ad}
theorem DW{x y:Str}(h:x≠y):(Sum.inr x:Key)≠ .inr y:=fun z=>h (Sum.inr.inj z)
theorem j5.put{kvs:List (Key×V)}{L:NL}{k:Kd}{x:Bytes}(h:j5 kvs L)(hk:cV k=true)(hu:dh L x):j5 (putK kvs (.inr (strOf x)) (.str (aZ k))) (de L k x):=by
 intro y v
 rw[vb]
 by_cases e:y=x
 ·subst e
  rw[if_pos rfl]
  constructor
  ·intro z
   cases z
   exact⟨k,hk,rfl,by rw[add_same];simp⟩
  ·rintro⟨j,hj,rfl,hm⟩
   by_cases ej:j=k
   ·rw[ej]
   ·rw[kJ ej]at hm
    exact absurd hm (hu j hj)
 ·rw[if_neg (DW fun z=>e (qF z)),h y v]
  refine exists_congr fun j=>and_congr_right fun hj=>and_congr_right fun ev=>?_
  by_cases ej:j=k
  ·rw[ej,add_same]
   simp[e]
  ·rw[kJ ej]
theorem tY.put{kvs:List (Key×V)}{L:NL}{k:Kd}{x:Bytes}(h:tY kvs L):tY (putK kvs (.inr (aZ k)) (.int ((L k).length+1))) (de L k x):=by
 intro j
 rw[vb]
 by_cases e:j=k
 ·subst e
  rw[if_pos rfl,add_same]
  simp
 ·rw[if_neg (DW fun z=>e (sF z)),kJ e]
  exact h j
theorem kG.put{kvs:List (List Key×V)}{L:NL}{k:Kd}{x:Bytes}(h:kG kvs L)(hk:cV k=false):kG (putK kvs [.inr (aZ k),.inr (strOf x)] (.bl true)) (de L k x):=by
 intro j y hj
 rw[vb]
 by_cases e:j=k
 ·subst e
  rw[add_same]
  by_cases ey:y=x
  ·subst ey
   rw[if_pos rfl]
   simp
  ·rw[if_neg (fun z=>by simp at z;exact ey (qF z)),h j y hj]
   simp[ey]
 ·rw[if_neg (fun z=>by simp at z;exact e (sF z.1)),kJ e]
  exact h j y hj
theorem j5.add{kvs:List (Key×V)}{L:NL}{k:Kd}{x:Bytes}(h:j5 kvs L)(hk:cV k=false):j5 kvs (de L k x):=by
 intro y v
 rw[h y v]
 refine exists_congr fun j=>and_congr_right fun hj=>and_congr_right fun ev=>?_
 rw[kJ (fun z=>by rw[z,hk]at hj;cases hj)]
theorem kG.add{kvs:List (List Key×V)}{L:NL}{k:Kd}{x:Bytes}(h:kG kvs L)(hk:cV k=true):kG kvs (de L k x):=by
 intro j y hj
 rw[h j y hj,kJ (fun z=>by rw[z,hk]at hj;cases hj)]
theorem Aw{L:NL}{k:Kd}{x:Bytes}(h:∀k,(L k).length<=bD k)(hl:(L k).length≠bD k)(j:Kd):(de L k x j).length<=bD j:=by
 have:=h j
 by_cases e:j=k
 ·subst e
  rw[add_same,List.length_append,List.length_singleton]
  omega
 ·rw[kJ e];exact this
theorem small{n:Nat}{L:NL}(h:n<=hG L)(b:∀k,(L k).length<=bD k):n<sizeLine:=HD (by have:=Gf b;omega)
def BH(a:Ad):Sp:=fun vs H Q _=>∃(R:NA)(L:NL)(k:Kd)(x:Addr)(xb:Bytes)(kd:Str)(n pl af:Int),vs=[.ref R.n,.ref x,.str (aZ k)]/\fw a R L H/\bT a.bG H x kd (strOf xb) n pl af/\cV k=true/\dh L xb/\
 (L k).length≠bD k/\∀H',fw a R (de L k xb) H'->gQ R H H'->Q .aw H'
theorem KQ:aI ["self","token","kind"] ["self","token","kind"] (aD uQ):=⟨rfl,rfl,rfl,by decide +kernel,rfl,by decide +kernel,by decide +kernel⟩
theorem BY(T:Tx P w K mg a):aB P w K mg base bx 2 a.mN a.k8 ["self","token","kind"] (BH a):=by
 refine T.iD.fn.ok KQ (fun vs H Q E h=>?_) (fun cdv A outer s H vs Q E hr h=>?_)
 ·obtain⟨_,_,_,_,_,_,_,_,_,rfl,_⟩:=h;rfl
 obtain⟨R,L,k,x,xb,kd,n,pl,af,rfl,N,tk,hk,hu,hl,q⟩:=h
 refine⟨_,ai (sx (jy hr) (aH (pv 0) rfl) (aH (pv 1) rfl) (pv 2) rfl)
  (ak (sx (jy hr) (aH (pv 0) rfl) (pv 2) (fC iX (aV (pv 0) T.cu.cl T.eE.mt (rF T) hr T.eE.bd .nil a3 (ae (pv 2) ag)) bN) rfl)),?_⟩
 obtain⟨dx,e0⟩:=N.obj
 obtain⟨kt,et,ht,lt⟩:=N.fJ
 obtain⟨ks,es,hs,ls⟩:=N.gI
 obtain⟨ka,ea,ha,la⟩:=N.fL
 obtain⟨dx1,fs,e,l1,l2,l3,l4,l5⟩:=tk
 have nt:R.n≠R.td:=bI e0 et (fun z=>nomatch z)
 have na:R.n≠R.ad:=bI e0 ea (fun z=>nomatch z)
 have st:R.sd≠R.td:=bI es et (fun z=>nomatch z)
 have sa:R.sd≠R.ad:=bI es ea (fun z=>nomatch z)
 refine⟨_,rfl,_,rfl,R.n,_,dx,_,_,rfl,e0,T.cu.cl,T.sJ,rfl,_,rfl,x,_,dx1,fs,_,rfl,e,T.bo.cl,T.bV,l2,R.td,_,rfl,gZ.k (k:=.inr (strOf xb)) et (small lt N.bd),?_⟩
 have e0':(upd H R.td (.dK (putK kt (.inr (strOf xb)) (.str (aZ k))))) R.n=some (.ins a.bY dx (rL R.td R.sd R.ad)):=by rw[ao nt];exact e0
 have ea':(upd H R.td (.dK (putK kt (.inr (strOf xb)) (.str (aZ k))))) R.ad=some (.dK ka):=by rw[ao N.ne.symm];exact ea
 refine⟨_,rfl,R.n,dx,_,rfl,e0',rfl,_,rfl,R,dx,ka,aZ k,_,rfl,e0',ea',ha k,_,_,rfl,rfl,?_⟩
 refine⟨_,rfl,R.n,_,dx,_,_,rfl,e0',T.cu.cl,T.tT,rfl,_,rfl,R.ad,_,rfl,gZ.k (k:=.inr (aZ k)) ea' (small la N.bd),?_⟩
 refine q _ ⟨⟨dx,?_⟩,⟨_,?_,ht.put hk hu,?_⟩,⟨ks,?_,hs.add hk,?_⟩,⟨_,az,ha.put,?_⟩,N.ne,Aw N.bd hl⟩ fun b o eb n1 n2 n3=>?_
 ·rw[ao na];exact e0'
 ·rw[ao N.ne];exact az
 ·have:=mT kt (.inr (strOf xb)) (.str (aZ k));rw[l9];omega
 ·rw[ao sa,ao st];exact es
 ·rw[l9];omega
 ·rw[l9];exact Nat.le_trans (mT ka (.inr (aZ k)) _) (Nat.succ_le_succ la)
 ·rw[ao n3,ao n1];exact eb
def iW(L:NL)(k:Kd)(x:Bytes):NL:=if x∈L k then L else de L k x
def Ea(K:PySem.W.Frag)(a:Ad):Sp:=fun vs H Q E=>∃(R:NA)(L:NL)(k:Kd)(x:Addr)(xb:Bytes)(kd:Str)(n pl af:Int),vs=[.ref R.n,.ref x,.str (aZ k)]/\fw a R L H/\bT a.bG H x kd (strOf xb) n pl af/\cV k=false/\
 (xb∉L k->(L k).length=bD k->Told K a E 6 pl)/\((xb∈L k\/(L k).length≠bD k)->∀H',fw a R (iW L k xb) H'->gQ R H H'->Q .aw H')
theorem Ho:aI ["self","token","kind"] ["self","token","kind"] (aD uq):=⟨rfl,rfl,rfl,by decide +kernel,rfl,by decide +kernel,by decide +kernel⟩
theorem JN(T:Tx P w K mg a):aB P w K mg base (a8 P w) 5 a.oW a.nZ ["self","token","kind"] (Ea K a):=by
 refine T.xq.fn.bq Ho (fun vs H Q E h=>?_) (fun cdv A outer s H vs Q E hr h=>?_)
 ·obtain⟨_,_,_,_,_,_,_,_,_,rfl,_⟩:=h;rfl
 obtain⟨R,L,k,x,xb,kd,n,pl,af,rfl,N,tk,hk,q1,q2⟩:=h
 refine⟨_,ai (a7 (yN (zA (jy hr) (jT (ae (pv 2) (ae (aH (pv 1) rfl) ag))) (aH (pv 0) rfl)) (by rfl)) (ak K8) bj)
  (ai (a0 (aV (pv 0) T.cu.cl T.pX.mt (zF T) hr T.pX.bd .nil au (ae (pv 1) (ae (pv 2) ag))))
  (ai (sx (jy hr) (aH (pv 0) rfl) (jT (ae (pv 2) (ae (aH (pv 1) rfl) ag))) MB rfl)
  (ak (sx (jy hr) (aH (pv 0) rfl) (pv 2) (fC iX (aV (pv 0) T.cu.cl T.eE.mt (rF T) (hr.mono (by decide)) T.eE.bd .nil a3 (ae (pv 2) ag)) bN) rfl)))),?_⟩
 have tk0:=tk
 obtain⟨dx,e0⟩:=N.obj
 obtain⟨kt,et,ht,lt⟩:=N.fJ
 obtain⟨ks,es,hs,ls⟩:=N.gI
 obtain⟨ka,ea,ha,la⟩:=N.fL
 obtain⟨dx1,fs,e,l1,l2,l3,l4,l5⟩:=tk
 have nt:R.n≠R.td:=bI e0 et (fun z=>nomatch z)
 have na:R.n≠R.ad:=bI e0 ea (fun z=>nomatch z)
 have ns:R.n≠R.sd:=bI e0 es (fun z=>nomatch z)
 have st:R.sd≠R.td:=bI es et (fun z=>nomatch z)
 have sa:R.sd≠R.ad:=bI es ea (fun z=>nomatch z)
 refine⟨_,rfl,_,rfl,x,_,dx1,fs,_,rfl,e,T.bo.cl,T.bV,l2,(by show 2<=sizeLine;decide),fun p hp=>?_⟩
 have s1:aN H (upd H p (.tup [.str (aZ k),.str (strOf xb)])):=aP hp
 refine⟨_,rfl,R.n,_,dx,_,_,rfl,s1 _ _ e0,T.cu.cl,T.uk,rfl,R.sd,_,rfl,fS.t (k:=[.inr (aZ k),.inr (strOf xb)]) (s1 _ _ es) az,_,rfl,?_⟩
 have hin:=hs k xb hk
 by_cases hm:xb∈L k
 ·rw[hin.mpr hm]
  refine b5 (q2 (.inl hm) _ ?_ (Al s1))
  unfold iW
  rw[if_pos hm]
  exact N.same s1
 rw[show(bJ ks [.inr (aZ k),.inr (strOf xb)]).isSome=false from Bool.eq_false_iff.mpr fun z=>hm (hin.mp z)]
 refine df ⟨_,rfl,R.n,dx,_,rfl,s1 _ _ e0,rfl,_,rfl,_,rfl,R,L,k,x,kd,_,n,pl,af,rfl,N.same s1,tk0.same s1,fun hl=>?_,fun hl=>q1 hm hl⟩
 refine⟨_,rfl,R.n,_,dx,_,_,rfl,s1 _ _ e0,T.cu.cl,T.uk,rfl,_,rfl,_,rfl,x,_,dx1,fs,_,rfl,s1 _ _ e,T.bo.cl,T.bV,l2,(by show 2<=sizeLine;decide),fun p2 hp2=>?_⟩
 generalize hH1:upd H p (.tup [.str (aZ k),.str (strOf xb)])=H1 at s1 hp2
 have s2:aN H (upd H1 p2 (.tup [.str (aZ k),.str (strOf xb)])):=s1.trans (aP hp2)
 refine⟨R.sd,_,rfl,gZ.t (k:=[.inr (aZ k),.inr (strOf xb)]) (s2 _ _ es) az (small ls N.bd),?_⟩
 generalize hH2:upd H1 p2 (.tup [.str (aZ k),.str (strOf xb)])=H2 at s2
 have e0':(upd H2 R.sd (.dT (putK ks [.inr (aZ k),.inr (strOf xb)] (.bl true)))) R.n=some (.ins a.bY dx (rL R.td R.sd R.ad)):=by rw[ao ns];exact s2 _ _ e0
 have ea':(upd H2 R.sd (.dT (putK ks [.inr (aZ k),.inr (strOf xb)] (.bl true)))) R.ad=some (.dK ka):=by rw[ao sa.symm];exact s2 _ _ ea
 refine⟨_,rfl,R.n,dx,_,rfl,e0',rfl,_,rfl,R,dx,ka,aZ k,_,rfl,e0',ea',ha k,_,_,rfl,rfl,?_⟩
 refine⟨_,rfl,R.n,_,dx,_,_,rfl,e0',T.cu.cl,T.tT,rfl,_,rfl,R.ad,_,rfl,gZ.k (k:=.inr (aZ k)) ea' (small la N.bd),?_⟩
 refine q2 (.inr hl) _ ?_ fun b o eb n1 n2 n3=>?_
 ·unfold iW
  rw[if_neg hm]
  refine⟨⟨dx,?_⟩,⟨kt,?_,ht.add hk,?_⟩,⟨_,?_,hs.put hk,?_⟩,⟨_,az,ha.put,?_⟩,N.ne,Aw N.bd hl⟩
  ·rw[ao na];exact e0'
  ·rw[ao N.ne,ao st.symm];exact s2 _ _ et
  ·rw[l9];omega
  ·rw[ao sa];exact az
  ·have:=mT ks [.inr (aZ k),.inr (strOf xb)] (.bl true);rw[l9];omega
  ·rw[l9];exact Nat.le_trans (mT ka (.inr (aZ k)) _) (Nat.succ_le_succ la)
 ·rw[ao n3,ao n2];exact s2 _ _ eb
def BD:NL:=fun _=>[]
def GV(a:Ad):Sp:=fun vs H Q _=>∃(x dx:Addr),vs=[.ref x]/\H x=some (.ins a.bY dx [])/\∀(H':Hp)(R:NA),R.n=x->fw a R BD H'->(∀b o,H b=some o->b≠x->H' b=some o)->Q .aw H'
theorem Er:aI ["self"] ["self"] (aD yr):=⟨rfl,rfl,rfl,by decide +kernel,rfl,by decide +kernel,by decide +kernel⟩
theorem Lx(T:Tx P w K mg a):aB P w K mg base bx 1 a.kj a.lu ["self"] (GV a):=by
 refine T.Dk.1.ok Er (fun vs H Q E h=>?_) (fun cdv A outer s H vs Q E hr h=>?_)
 ·obtain⟨_,_,rfl,_⟩:=h;rfl
 obtain⟨x,dx,rfl,hx,q⟩:=h
 refine⟨_,ai (cU (pv 0) zj rfl) (ai (cU (pv 0) J8 rfl) (ak (cU (pv 0) zj rfl))),?_⟩
 have C:=T.cu.cl
 have nx {H:Hp} {p b:Addr} {o:HO} (h:H p=none) (e:H b=some o):b≠p:=fun z=>by rw[z,h]at e;cases e
 intro td htd
 have n1:x≠td:=nx htd hx
 refine⟨_,rfl,x,_,dx,_,rfl,(by rw[ao n1];exact hx),C,T.sJ,(by show 0<1000;decide),?_⟩
 intro sd hsd
 have e1:(upd (upd H td (.dK [])) x (.ins a.bY dx (cn "told" (.ref td) []))) td=some (.dK []):=by rw[ao n1.symm];exact az
 have n2:x≠sd:=nx hsd az
 have n3:td≠sd:=nx hsd e1
 refine⟨_,rfl,x,_,dx,_,rfl,(by rw[ao n2];exact az),C,T.uk,(by show 1<1000;decide),?_⟩
 intro ad had
 have n4:x≠ad:=nx had az
 have n5:sd≠ad:=nx had (by rw[ao n2.symm];exact az)
 have n6:td≠ad:=nx had (by rw[ao n1.symm,ao n3];exact e1)
 refine⟨_,rfl,x,_,dx,_,rfl,(by rw[ao n4];exact az),C,T.tT,(by show 2<1000;decide),?_⟩
 refine q _ ⟨x,td,sd,ad⟩ rfl ⟨⟨dx,az⟩,⟨[],?_,fun y v=>?_,Nat.zero_le _⟩,⟨[],?_,fun k y _=>?_,Nat.zero_le _⟩,⟨[],?_,fun k=>rfl,Nat.zero_le _⟩,n6,fun k=>Nat.zero_le _⟩ fun b o eb hb=>?_
 ·rw[ao n1.symm,ao n6,ao n1.symm,ao n3];exact e1
 ·rw[Dv]
  constructor
  ·intro z;cases z
  ·rintro⟨j,_,_,hm⟩;cases hm
 ·rw[ao n2.symm,ao n5,ao n2.symm];exact az
 ·rw[Dv]
  constructor
  ·intro z;cases z
  ·intro hm;cases hm
 ·rw[ao n4.symm];exact az
 ·have b1:b≠td:=nx htd eb
  have g1:(upd H td (.dK [])) b=some o:=by rw[ao b1];exact eb
  have g2:(upd (upd H td (.dK [])) x (.ins a.bY dx (cn "told" (.ref td) []))) b=some o:=by rw[ao hb];exact g1
  have b2:b≠sd:=nx hsd g2
  have g3:(upd (upd (upd (upd H td (.dK [])) x (.ins a.bY dx (cn "told" (.ref td) []))) sd (.dT [])) x (.ins a.bY dx (cn "standing" (.ref sd) (cn "told" (.ref td) [])))) b=some o:=by rw[ao hb,ao b2];exact g2
  rw[ao hb,ao (nx had g3)]
  exact g3
end Wale
end
section
set_option Elab.async false
set_option linter.all false
set_option maxRecDepth 100000
set_option maxHeartbeats 2000000
namespace Wale
open PySem PySem.Spec PyProof.Rows L2
open Wm
variable {P:Program}{w:World}{K:PySem.W.Frag}{mg:Str->Option Value}{base:Heap}{a:Ad}
structure RA where
 r:Addr
 t:Addr
 N:NA
def jI(t:Addr)(v:V)(p d:Nat)(n:Addr):List (Str×V):=[("source",.ref t),("ahead",v),("after",.int (p:Int)),("depth",.int (d:Int)),("names",.ref n)]
def cp(b:Bytes)(p:Nat):Prop:=∀k,aj b p≠ .bad k
def cS(a:Ad)(b:Bytes)(p:Nat)(H:Hp)(x:Addr):Prop:=bT a.bG H x (eQ (aj b p)) (bc (aj b p)) (u6 (aj b p):Nat) (aM b p:Nat) (ay b p:Nat)
def AJ(a:Ad)(b:Bytes)(p:Nat)(H:Hp)(v:V):Prop:=v=.aw\/∃x,v=.ref x/\cp b p/\cS a b p H x
structure aq(a:Ad)(K:PySem.W.Frag)(b:Bytes)(R:RA)(p d:Nat)(L:NL)(H:Hp):Prop where
 obj:∃dx v,H R.r=some (.ins a.a9 dx (jI R.t v p d R.N.n))/\AJ a b p H v
 src:aO K H R.t (nums b)
 nm:fw a R.N L H
 len:b.length<=20000
 pl:p<=b.length
def aC(R:RA)(H H':Hp):Prop:=∀b o,H b=some o->b≠R.r->b≠R.N.td->b≠R.N.sd->b≠R.N.ad->H' b=some o
theorem aC.refl(R:RA)(H:Hp):aC R H H:=fun _ _ h _ _ _ _=>h
theorem bg{R:RA}{H H':Hp}(h:aN H H'):aC R H H':=fun b o e _ _ _ _=>h b o e
theorem aC.trans{R:RA}{H H1 H2:Hp}(h:aC R H H1)(g:aC R H1 H2):aC R H H2:=fun b o e n1 n2 n3 n4=>g b o (h b o e n1 n2 n3 n4) n1 n2 n3 n4
theorem gQ.keepR{R:RA}{H H':Hp}(h:gQ R.N H H'):aC R H H':=fun b o e _ n2 n3 n4=>h b o e n2 n3 n4
theorem hJ{R:RA}{H:Hp}{o:HO}:aC R H (upd H R.r o):=fun b ob e n1 _ _ _=>by rw[ao n1];exact e
theorem G3{H:Hp}{x r:Addr}{C C' dx:Addr}{kd tx:Str}{n pl af:Int}{fs:List (Str×V)}(h:bT C H x kd tx n pl af)(e:H r=some (.ins C' dx fs))(l:fs.lookup ("kind":Str)=none):x≠r:=by
 obtain⟨dx1,fs1,e1,l1,-⟩:=h
 intro z
 rw[z,e]at e1
 cases e1
 rw[l]at l1
 cases l1
section
variable {b:Bytes}{R:RA}{p d:Nat}{L:NL}{H H':Hp}
theorem aq.Ds(h:aq a K b R p d L H):∃dx fs,H R.r=some (.ins a.a9 dx fs)/\fs.lookup ("kind":Str)=none:=by
 obtain⟨dx,v,e,-⟩:=h.obj
 exact⟨dx,_,e,rfl⟩
theorem bT.keepR{C x:Addr}{kd tx:Str}{n pl af:Int}(h:bT C H x kd tx n pl af)(N:aq a K b R p d L H)(s:aC R H H'):bT C H' x kd tx n pl af:=by
 obtain⟨dr,fr,er,lr⟩:=N.Ds
 have nr:=G3 h er lr
 obtain⟨dx,fs,e,r⟩:=h
 obtain⟨k1,e1,-⟩:=N.nm.fJ
 obtain⟨k2,e2,-⟩:=N.nm.gI
 obtain⟨k3,e3,-⟩:=N.nm.fL
 exact⟨dx,fs,s _ _ e nr (bI e e1 (fun z=>nomatch z)) (bI e e2 (fun z=>nomatch z)) (bI e e3 (fun z=>nomatch z)),r⟩
theorem Rd.keepR{t:Addr}{xs:List V}(h:Rd H t (.lst xs))(N:aq a K b R p d L H)(s:aC R H H'):Rd H' t (.lst xs):=by
 obtain⟨dr,fr,er,lr⟩:=N.Ds
 obtain⟨k1,e1,-⟩:=N.nm.fJ
 obtain⟨k2,e2,-⟩:=N.nm.gI
 obtain⟨k3,e3,-⟩:=N.nm.fL
 rcases h with e|⟨o,e⟩
 ·exact .inl (s _ _ e (bI e er (fun z=>nomatch z)) (bI e e1 (fun z=>nomatch z)) (bI e e2 (fun z=>nomatch z)) (bI e e3 (fun z=>nomatch z)))
 ·exact .inr ⟨o,s _ _ e (bI e er (fun z=>nomatch z)) (bI e e1 (fun z=>nomatch z)) (bI e e2 (fun z=>nomatch z)) (bI e e3 (fun z=>nomatch z))⟩
theorem aO.keepR{t:Addr}{xs:List V}(h:aO K H t xs)(N:aq a K b R p d L H)(s:aC R H H'):aO K H' t xs:=by
 rcases h with h|h
 ·exact .inl (Rd.keepR h N s)
 ·exact .inr h
theorem aq.names{L':NL}(h:aq a K b R p d L H)(k:gQ R.N H H')(n:fw a R.N L' H'):aq a K b R p d L' H':=by
 obtain⟨k1,e1,-⟩:=h.nm.fJ
 obtain⟨k2,e2,-⟩:=h.nm.gI
 obtain⟨k3,e3,-⟩:=h.nm.fL
 obtain⟨dx,v,e,hv⟩:=h.obj
 refine⟨⟨dx,v,k _ _ e (bI e e1 (fun z=>nomatch z)) (bI e e2 (fun z=>nomatch z)) (bI e e3 (fun z=>nomatch z)),?_⟩,aO.keepR h.src h k.keepR,n,h.len,h.pl⟩
 rcases hv with hv|⟨x,ev,nb,tk⟩
 ·exact .inl hv
 ·exact .inr ⟨x,ev,nb,bT.keepR tk h k.keepR⟩
theorem aq.same(h:aq a K b R p d L H)(s:aN H H'):aq a K b R p d L H':=h.names (Al s) (h.nm.same s)
theorem aq.put{dx:Addr}{v v':V}{p' d':Nat}(h:aq a K b R p d L H)(e:H R.r=some (.ins a.a9 dx (jI R.t v p d R.N.n)))(hv:AJ a b p' H v')(hp:p'<=b.length):
  aq a K b R p' d' L (upd H R.r (.ins a.a9 dx (jI R.t v' p' d' R.N.n))):=by
 have kp:aC R H (upd H R.r (.ins a.a9 dx (jI R.t v' p' d' R.N.n))):=hJ
 obtain⟨k1,e1,t1⟩:=h.nm.fJ
 obtain⟨k2,e2,t2⟩:=h.nm.gI
 obtain⟨k3,e3,t3⟩:=h.nm.fL
 obtain⟨dn,en⟩:=h.nm.obj
 have nr:R.N.n≠R.r:=bI en e (fun z=>by
  injection z with z1 z2 z3
  exact absurd (congrArg List.length z3) (show ¬(3=5) by decide))
 refine⟨⟨dx,v',az,?_⟩,aO.keepR h.src h kp,⟨⟨dn,?_⟩,⟨k1,?_,t1⟩,⟨k2,?_,t2⟩,⟨k3,?_,t3⟩,h.nm.ne,h.nm.bd⟩,h.len,hp⟩
 ·rcases hv with hv|⟨x,ev,nb,tk⟩
  ·exact .inl hv
  ·exact .inr ⟨x,ev,nb,bT.keepR tk h kp⟩
 ·rw[ao nr];exact en
 ·rw[ao (bI e1 e (fun z=>nomatch z))];exact e1
 ·rw[ao (bI e2 e (fun z=>nomatch z))];exact e2
 ·rw[ao (bI e3 e (fun z=>nomatch z))];exact e3
end
def gz(K:PySem.W.Frag)(a:Ad)(b:Bytes)(p:Nat)(E:XK):Prop:=∀k:Nat,aj b p=.bad k->Told K a E k (aM b p:Nat)
def C4(K:PySem.W.Frag)(a:Ad):Sp:=fun vs H Q E=>∃(b:Bytes)(R:RA)(p d:Nat)(L:NL),vs=[.ref R.r]/\aq a K b R p d L H/\gz K a b p E/\
 (cp b p->∀(H':Hp)(x:Addr),aq a K b R p d L H'->aC R H H'->cS a b p H' x->Q (.ref x) H')
theorem Hz:aI ["self"] ["self"] (aD vB):=⟨rfl,rfl,rfl,by decide +kernel,rfl,by decide +kernel,by decide +kernel⟩
theorem jN(T:Tx P w K mg a):aB P w K mg base (a8 P w) 7 a.lQ a.nF ["self"] (C4 K a):=by
 refine T.bU.fn.bq Hz (fun vs H Q E h=>?_) (fun cdv A outer s H vs Q E hr h=>?_)
 ·obtain⟨_,_,_,_,_,rfl,_⟩:=h;rfl
 obtain⟨b,R,p,d,L,rfl,hR,kb,kq⟩:=h
 have C:=T.bC.cl
 refine⟨_,ai (a7 (a4 Ez (aH (pv 0) rfl) iu (aX _))
  (ak (cU (pv 0) (aS T.Bh (Il T) hr au (ae (aH (pv 0) rfl) (ae (aH (pv 0) rfl) ag))) rfl)) bj) (ak (aK (aH (pv 0) rfl))),?_⟩
 obtain⟨dx,v,e,hv⟩:=hR.obj
 refine⟨_,rfl,R.r,_,dx,_,_,rfl,e,C,T.lV,rfl,rfl,_,rfl,?_⟩
 rcases hv with rfl|⟨x,rfl,nb,tk⟩
 ·refine b5 ⟨_,rfl,R.r,_,dx,_,_,rfl,e,C,T.BI,rfl,_,rfl,R.r,_,dx,_,_,rfl,e,C,T.yB,rfl,R.t,b,p,rfl,hR.src,hR.pl,hR.len,fun nb=>?_,kb⟩
  intro x H' sm fr tk
  have e':=sm _ _ e
  refine⟨_,rfl,R.r,_,dx,_,rfl,e',C,T.lV,(by show 5<1000;decide),?_⟩
  have h2:=(hR.same sm).put (v':=.ref x) (p':=p) (d':=d) e' (.inr ⟨x,rfl,nb,tk⟩) hR.pl
  refine⟨_,rfl,R.r,_,dx,_,_,rfl,az,C,T.lV,rfl,?_⟩
  exact kq nb _ x h2 ((bg sm).trans hJ) (bT.keepR tk (hR.same sm) hJ)
 ·exact df ⟨_,rfl,R.r,_,dx,_,_,rfl,e,C,T.lV,rfl,kq nb H x hR (aC.refl _ _) tk⟩
def Dt(K:PySem.W.Frag)(a:Ad):Sp:=fun vs H Q E=>∃(b:Bytes)(R:RA)(p d:Nat)(L:NL),vs=[.ref R.r]/\aq a K b R p d L H/\gz K a b p E/\
 (cp b p->∀(H':Hp)(x:Addr),aq a K b R (ay b p) d L H'->aC R H H'->cS a b p H' x->Q (.ref x) H')
theorem Bv:aI ["self","token"] ["self"] (aD yj):=⟨rfl,rfl,rfl,by decide +kernel,rfl,by decide +kernel,by decide +kernel⟩
theorem sD(T:Tx P w K mg a):aB P w K mg base (a8 P w) 8 a.mX a.mR ["self"] (Dt K a):=by
 refine T.cx.fn.bq Bv (fun vs H Q E h=>?_) (fun cdv A outer s H vs Q E hr h=>?_)
 ·obtain⟨_,_,_,_,_,rfl,_⟩:=h;rfl
 obtain⟨b,R,p,d,L,rfl,hR,kb,kq⟩:=h
 have C:=T.bC.cl
 refine⟨_,ai (aW (i:=1) Bv.nd rfl (Or.inl rfl) (cq (pv 0) C T.bU.mt (jN T) hr T.bU.bd .nil au))
  (ai (cU (pv 0) iu rfl) (ai (cU (pv 0) (aH (pv 1) rfl) rfl) (ak (aK (pv 1))))),?_⟩
 obtain⟨dx,v,e,hv⟩:=hR.obj
 refine⟨_,rfl,R.r,dx,_,rfl,e,rfl,b,R,p,d,L,rfl,hR,kb,fun nb H1 x hR1 kp1 tk1=>?_⟩
 obtain⟨dx1,v1,e1,hv1⟩:=hR1.obj
 refine⟨_,rfl,R.r,_,dx1,_,rfl,e1,C,T.lV,(by show 5<1000;decide),?_⟩
 have hR2:=hR1.put (v':=.aw) (p':=p) (d':=d) e1 (.inl rfl) hR.pl
 have tk2:=bT.keepR tk1 hR1 (hJ (o:=.ins a.a9 dx1 (jI R.t .aw p d R.N.n)))
 obtain⟨dt,ft,et,lt1,lt2,lt3,lt4,lt5⟩:=tk2
 refine⟨_,rfl,x,_,dt,ft,_,rfl,et,T.bo.cl,T.CW,lt5,_,rfl,R.r,_,dx1,_,rfl,az,C,T.yB,(by show 5<1000;decide),?_⟩
 have hR3:=hR2.put (v':=.aw) (p':=ay b p) (d':=d) az (.inl rfl) (vA hR.pl)
 exact⟨_,rfl,kq nb _ x hR3 ((kp1.trans hJ).trans hJ) (bT.keepR ⟨dt,ft,et,lt1,lt2,lt3,lt4,lt5⟩ hR2 hJ)⟩
end Wale
end
section
set_option Elab.async false
set_option linter.all false
set_option maxRecDepth 100000
set_option maxHeartbeats 2000000
namespace Wale
open PySem PySem.Spec PyProof.Rows L2
open Wm
variable {P:Program}{w:World}{K:PySem.W.Frag}{mg:Str->Option Value}{base:Heap}{a:Ad}
def DT(K:PySem.W.Frag)(a:Ad):Sp:=fun vs H Q E=>∃(b:Bytes)(R:RA)(p d:Nat)(L:NL)(tx:Str),vs=[.ref R.r,.str tx]/\aq a K b R p d L H/\gz K a b p E/\
 (cp b p->bc (aj b p)=tx->∀H':Hp,aq a K b R (ay b p) d L H'->aC R H H'->Q (.bl true) H')/\(cp b p->bc (aj b p)≠tx->∀H':Hp,aq a K b R p d L H'->aC R H H'->Q (.bl false) H')
theorem C7:aI ["self","text","there"] ["self","text"] (aD xD):=⟨rfl,rfl,rfl,by decide +kernel,rfl,by decide +kernel,by decide +kernel⟩
theorem Ek(T:Tx P w K mg a):aB P w K mg base (a8 P w) 9 a.mU a.nz ["self","text"] (DT K a):=by
 refine T.dO.fn.bq C7 (fun vs H Q E h=>?_) (fun cdv A outer s H vs Q E hr h=>?_)
 ·obtain⟨_,_,_,_,_,_,rfl,_⟩:=h;rfl
 obtain⟨b,R,p,d,L,tx,rfl,hR,kb,k1,k2⟩:=h
 have C:=T.bC.cl
 refine⟨_,ai (aW (i:=2) C7.nd rfl (Or.inl rfl) (jq b9 (aH (cq (pv 0) C T.bU.mt (jN T) (hr.mono (by decide)) T.bU.bd .nil au) rfl) (pv 1) (aX _)))
  (ai (a7 (di (pv 2)) (ak (a0 (cq (pv 0) C T.cx.mt (sD T) hr T.cx.bd .nil au))) bj) (ak (aK (pv 2)))),?_⟩
 obtain⟨dx,v,e,hv⟩:=hR.obj
 refine⟨_,rfl,R.r,dx,_,rfl,e,rfl,b,R,p,d,L,rfl,hR,kb,fun nb H1 x hR1 kp1 tk1=>?_⟩
 obtain⟨dt,ft,et,lt1,lt2,lt3,lt4,lt5⟩:=tk1
 refine⟨x,_,dt,ft,_,rfl,et,T.bo.cl,T.bV,lt2,_,rfl,rfl,_,rfl,_,rfl,?_⟩
 rw[cA]
 obtain⟨dx1,v1,e1,hv1⟩:=hR1.obj
 by_cases ht:bc (aj b p)=tx
 ·rw[decide_eq_true ht]
  refine b5 ⟨_,rfl,R.r,dx1,_,rfl,e1,rfl,b,R,p,d,L,rfl,hR1,kb,fun _ H2 y hR2 kp2 tk2=>?_⟩
  exact⟨_,rfl,k1 nb ht H2 hR2 (kp1.trans kp2)⟩
 ·rw[decide_eq_false ht]
  exact df ⟨_,rfl,k2 nb ht H1 hR1 kp1⟩
def vh(K:PySem.W.Frag)(a:Ad)(f:LsWale.Tok->Str):Sp:=fun vs H Q E=>∃(b:Bytes)(R:RA)(p d:Nat)(L:NL)(tx:Str),vs=[.ref R.r,.str tx]/\aq a K b R p d L H/\gz K a b p E/\
 (cp b p->f (aj b p)=tx->∀(H':Hp)(x:Addr),aq a K b R (ay b p) d L H'->aC R H H'->cS a b p H' x->Q (.ref x) H')/\(cp b p->f (aj b p)≠tx->Told K a E 3 (aM b p:Nat))
theorem Hv:aI ["self","text"] ["self","text"] (aD wb):=⟨rfl,rfl,rfl,by decide +kernel,rfl,by decide +kernel,by decide +kernel⟩
theorem vM(T:Tx P w K mg a):aB P w K mg base (a8 P w) 9 a.lP a.mE ["self","text"] (vh K a bc):=by
 refine T.cH.fn.bq Hv (fun vs H Q E h=>?_) (fun cdv A outer s H vs Q E hr h=>?_)
 ·obtain⟨_,_,_,_,_,_,rfl,_⟩:=h;rfl
 obtain⟨b,R,p,d,L,tx,rfl,hR,kb,k1,k2⟩:=h
 have C:=T.bC.cl
 have hr7:bp 7 _:=hr.mono (by decide)
 refine⟨_,ai (a7 (a4 jC (aH (cq (pv 0) C T.bU.mt (jN T) hr7 T.bU.bd .nil au) rfl) (pv 1) (aX _))
  (ak (eL rfl eP T.rP (Du T) T.yE.2 (hr.mono (by decide)) (aH (cq (pv 0) C T.bU.mt (jN T) hr7 T.bU.bd .nil au) rfl))) bj)
  (ak (aK (cq (pv 0) C T.cx.mt (sD T) hr T.cx.bd .nil au))),?_⟩
 obtain⟨dx,v,e,hv⟩:=hR.obj
 refine⟨_,rfl,R.r,dx,_,rfl,e,rfl,b,R,p,d,L,rfl,hR,kb,fun nb H1 x hR1 kp1 tk1=>?_⟩
 obtain⟨dt,ft,et,lt1,lt2,lt3,lt4,lt5⟩:=tk1
 refine⟨x,_,dt,ft,_,rfl,et,T.bo.cl,T.bV,lt2,_,rfl,rfl,_,rfl,?_⟩
 rw[cA]
 obtain⟨dx1,v1,e1,hv1⟩:=hR1.obj
 by_cases ht:bc (aj b p)=tx
 ·refine nV ht ⟨_,rfl,R.r,dx1,_,rfl,e1,rfl,b,R,p,d,L,rfl,hR1,kb,fun _ H2 y hR2 kp2 tk2=>?_⟩
  exact k1 nb ht H2 y hR2 (kp1.trans kp2) tk2
 ·rw[decide_eq_false ht]
  refine b5 ⟨_,rfl,R.r,dx1,_,rfl,e1,rfl,b,R,p,d,L,rfl,hR1,kb,fun _ H2 y hR2 kp2 tk2=>?_⟩
  obtain⟨du,fu,eu,lu1,lu2,lu3,lu4,lu5⟩:=tk2
  exact⟨y,_,du,fu,_,rfl,eu,T.bo.cl,T.gf,lu4,d6 T.rP (k2 nb ht)⟩
theorem HU:aI ["self","kind"] ["self","kind"] (aD wF):=⟨rfl,rfl,rfl,by decide +kernel,rfl,by decide +kernel,by decide +kernel⟩
theorem sV(T:Tx P w K mg a):aB P w K mg base (a8 P w) 9 a.mQ a.nG ["self","kind"] (vh K a eQ):=by
 refine T.fb.fn.bq HU (fun vs H Q E h=>?_) (fun cdv A outer s H vs Q E hr h=>?_)
 ·obtain⟨_,_,_,_,_,_,rfl,_⟩:=h;rfl
 obtain⟨b,R,p,d,L,tx,rfl,hR,kb,k1,k2⟩:=h
 have C:=T.bC.cl
 have hr7:bp 7 _:=hr.mono (by decide)
 refine⟨_,ai (a7 (a4 jC (aH (cq (pv 0) C T.bU.mt (jN T) hr7 T.bU.bd .nil au) rfl) (pv 1) (aX _))
  (ak (eL rfl eP T.rP (Du T) T.yE.2 (hr.mono (by decide)) (aH (cq (pv 0) C T.bU.mt (jN T) hr7 T.bU.bd .nil au) rfl))) bj)
  (ak (aK (cq (pv 0) C T.cx.mt (sD T) hr T.cx.bd .nil au))),?_⟩
 obtain⟨dx,v,e,hv⟩:=hR.obj
 refine⟨_,rfl,R.r,dx,_,rfl,e,rfl,b,R,p,d,L,rfl,hR,kb,fun nb H1 x hR1 kp1 tk1=>?_⟩
 obtain⟨dt,ft,et,lt1,lt2,lt3,lt4,lt5⟩:=tk1
 refine⟨x,_,dt,ft,_,rfl,et,T.bo.cl,T.j0,lt1,_,rfl,rfl,_,rfl,?_⟩
 rw[cA]
 obtain⟨dx1,v1,e1,hv1⟩:=hR1.obj
 by_cases ht:eQ (aj b p)=tx
 ·refine nV ht ⟨_,rfl,R.r,dx1,_,rfl,e1,rfl,b,R,p,d,L,rfl,hR1,kb,fun _ H2 y hR2 kp2 tk2=>?_⟩
  exact k1 nb ht H2 y hR2 (kp1.trans kp2) tk2
 ·rw[decide_eq_false ht]
  refine b5 ⟨_,rfl,R.r,dx1,_,rfl,e1,rfl,b,R,p,d,L,rfl,hR1,kb,fun _ H2 y hR2 kp2 tk2=>?_⟩
  obtain⟨du,fu,eu,lu1,lu2,lu3,lu4,lu5⟩:=tk2
  exact⟨y,_,du,fu,_,rfl,eu,T.bo.cl,T.gf,lu4,d6 T.rP (k2 nb ht)⟩
def Cy(K:PySem.W.Frag)(a:Ad):Sp:=fun vs H Q E=>∃(b:Bytes)(R:RA)(p d:Nat)(L:NL)(tx:Str),vs=[.ref R.r,.str tx]/\aq a K b R p d L H/\gz K a b p E/\
 (cp b p->bc (aj b p)≠tx->Told K a E 3 (aM b p:Nat))/\(cp b p->bc (aj b p)=tx->d=8->Told K a E 6 (aM b p:Nat))/\
 (cp b p->bc (aj b p)=tx->d≠8->∀H':Hp,aq a K b R (ay b p) (d+1) L H'->aC R H H'->Q .aw H')
theorem Dl:aI ["self","text","token"] ["self","text"] (aD uF):=⟨rfl,rfl,rfl,by decide +kernel,rfl,by decide +kernel,by decide +kernel⟩
theorem Gq(T:Tx P w K mg a):aB P w K mg base (a8 P w) 10 a.lx a.nj ["self","text"] (Cy K a):=by
 refine T.ke.fn.bq Dl (fun vs H Q E h=>?_) (fun cdv A outer s H vs Q E hr h=>?_)
 ·obtain⟨_,_,_,_,_,_,rfl,_⟩:=h;rfl
 obtain⟨b,R,p,d,L,tx,rfl,hR,kb,k1,k2,k3⟩:=h
 have C:=T.bC.cl
 refine⟨_,ai (aW (i:=2) Dl.nd rfl (Or.inl rfl) (aV (pv 0) C T.cH.mt (vM T) hr T.cH.bd .nil au (ae (pv 1) ag)))
  (ai (a7 (a4 b9 (aH (pv 0) rfl) (cy T.Fd) (aX _)) (ak (eL rfl eP T.ji (tf T) T.qc.2 (hr.mono (by decide)) (aH (pv 2) rfl))) bj)
  (ak (Bs (pv 0) bN LB))),?_⟩
 obtain⟨dx,v,e,hv⟩:=hR.obj
 refine⟨_,rfl,R.r,dx,_,rfl,e,rfl,_,rfl,b,R,p,d,L,tx,rfl,hR,kb,fun nb ht H1 x hR1 kp1 tk1=>?_,k1⟩
 obtain⟨dx1,v1,e1,hv1⟩:=hR1.obj
 refine⟨_,rfl,R.r,_,dx1,_,_,rfl,e1,C,T.rn,rfl,rfl,_,rfl,?_⟩
 rw[fM]
 refine aT (fun c=>?_) (fun c=>?_)
 ·obtain⟨dt,ft,et,lt1,lt2,lt3,lt4,lt5⟩:=tk1
  exact⟨_,rfl,x,_,dt,ft,_,rfl,et,T.bo.cl,T.gf,lt4,d6 T.ji (k2 nb ht (by have:=of_decide_eq_true c;omega))⟩
 ·refine⟨_,rfl,R.r,_,dx1,_,_,rfl,e1,C,T.rn,rfl,_,_,rfl,rfl,dx1,_,e1,(by show 5<1000;decide),?_⟩
  exact k3 nb ht (fun z=>c (decide_eq_true (by rw[z];rfl))) _ (hR1.put (v':=v1) (p':=ay b p) (d':=d+1) e1 hv1 hR1.pl) (kp1.trans hJ)
def DR(K:PySem.W.Frag)(a:Ad):Sp:=fun vs H Q E=>∃(b:Bytes)(R:RA)(p d:Nat)(L:NL)(tx:Str),vs=[.ref R.r,.str tx]/\aq a K b R p (d+1) L H/\gz K a b p E/\
 (cp b p->bc (aj b p)≠tx->Told K a E 3 (aM b p:Nat))/\(cp b p->bc (aj b p)=tx->∀H':Hp,aq a K b R (ay b p) d L H'->aC R H H'->Q .aw H')
theorem EE:aI ["self","text"] ["self","text"] (aD wg):=⟨rfl,rfl,rfl,by decide +kernel,rfl,by decide +kernel,by decide +kernel⟩
theorem Mb(T:Tx P w K mg a):aB P w K mg base (a8 P w) 10 a.mP a.kW ["self","text"] (DR K a):=by
 refine T.kO.fn.bq EE (fun vs H Q E h=>?_) (fun cdv A outer s H vs Q E hr h=>?_)
 ·obtain⟨_,_,_,_,_,_,rfl,_⟩:=h;rfl
 obtain⟨b,R,p,d,L,tx,rfl,hR,kb,k1,k2⟩:=h
 have C:=T.bC.cl
 refine⟨_,ai (a0 (aV (pv 0) C T.cH.mt (vM T) hr T.cH.bd .nil au (ae (pv 1) ag))) (ak (Bs (pv 0) bN LZ)),?_⟩
 obtain⟨dx,v,e,hv⟩:=hR.obj
 refine⟨_,rfl,R.r,dx,_,rfl,e,rfl,_,rfl,b,R,p,d+1,L,tx,rfl,hR,kb,fun nb ht H1 x hR1 kp1 tk1=>?_,k1⟩
 obtain⟨dx1,v1,e1,hv1⟩:=hR1.obj
 refine⟨_,rfl,R.r,_,dx1,_,_,rfl,e1,C,T.rn,rfl,_,_,rfl,rfl,dx1,_,e1,(by show 5<1000;decide),?_⟩
 have ed:((d+1:Nat):Int)-1=(d:Int):=by omega
 have h2:=hR1.put (v':=v1) (p':=ay b p) (d':=d) e1 hv1 hR1.pl
 have h3:aC R H1 (upd H1 R.r (.ins a.a9 dx1 (jI R.t v1 (ay b p) d R.N.n))):=hJ
 show Q .aw (upd H1 R.r (.ins a.a9 dx1 [("source",.ref R.t),("ahead",v1),("after",.int (ay b p:Nat)),("depth",.int (((d+1:Nat):Int)-1)),("names",.ref R.N.n)]))
 rw[ed]
 exact k2 nb ht _ h2 (kp1.trans h3)
def nameAt(b:Bytes)(p:Nat):Option Bytes:=match aj b p with
 | .word x=>if LsWale.isName x=true then some x else none
 |_=>none
theorem fT{b:Bytes}{p:Nat}:eQ (aj b p)=("name":Str)↔∃x,nameAt b p=some x:=by
 unfold nameAt
 cases aj b p with
 |word x=>
  show dv x=_↔_
  unfold dv
  by_cases h:LsWale.isName x=true
  ·simp only[if_pos h];exact⟨fun _=>⟨x,rfl⟩,fun _=>True.intro⟩
  ·simp only[if_neg h];exact⟨fun z=>absurd z (by decide +kernel),fun⟨_,z⟩=>by cases z⟩
 |num n=>exact⟨fun z=>absurd z (by show ¬(("number":Str)="name");decide +kernel),fun⟨_,z⟩=>by cases z⟩
 |sign c=>exact⟨fun z=>absurd z (by show ¬(("fixed":Str)="name");decide +kernel),fun⟨_,z⟩=>by cases z⟩
 |bad k=>exact⟨fun z=>absurd z (by show ¬(("":Str)="name");decide +kernel),fun⟨_,z⟩=>by cases z⟩
 |done=>exact⟨fun z=>absurd z (by show ¬(("end":Str)="name");decide +kernel),fun⟨_,z⟩=>by cases z⟩
theorem tq{b:Bytes}{p:Nat}{x:Bytes}(h:nameAt b p=some x):aj b p=.word x/\LsWale.isName x=true:=by
 unfold nameAt at h
 cases q:aj b p with
 |word y=>
  rw[q]at h
  simp only at h
  by_cases hy:LsWale.isName y=true
  ·rw[if_pos hy]at h;cases h;exact⟨rfl,hy⟩
  ·rw[if_neg hy]at h;cases h
 |_=>rw[q]at h;cases h
theorem iT{b:Bytes}{p:Nat}{x:Bytes}(h:nameAt b p=some x):bc (aj b p)=strOf x:=by rw[(tq h).1];rfl
def A7(K:PySem.W.Frag)(a:Ad):Sp:=fun vs H Q E=>∃(b:Bytes)(R:RA)(p d:Nat)(L:NL)(k:Kd),vs=[.ref R.r,.str (aZ k)]/\aq a K b R p d L H/\gz K a b p E/\
 (cp b p->nameAt b p=none->Told K a E 3 (aM b p:Nat))/\∀x,nameAt b p=some x->(¬dh L x->Told K a E 5 (aM b p:Nat))/\(dh L x->(L k).length=bD k->Told K a E 6 (aM b p:Nat))/\
  (dh L x->(L k).length≠bD k->∀(H':Hp)(y:Addr),aq a K b R (ay b p) d L H'->aC R H H'->cS a b p H' y->Q (.ref y) H')
theorem zG:aI ["self","kind","token"] ["self","kind"] (aD yp):=⟨rfl,rfl,rfl,by decide +kernel,rfl,by decide +kernel,by decide +kernel⟩
theorem KR(T:Tx P w K mg a):aB P w K mg base (a8 P w) 10 a.mG a.kZ ["self","kind"] (A7 K a):=by
 refine T.ip.fn.bq zG (fun vs H Q E h=>?_) (fun cdv A outer s H vs Q E hr h=>?_)
 ·obtain⟨_,_,_,_,_,_,rfl,_⟩:=h;rfl
 obtain⟨b,R,p,d,L,k,rfl,hR,kb,k1,k2⟩:=h
 have C:=T.bC.cl
 refine⟨_,ai (aW (i:=2) zG.nd rfl (Or.inl rfl) (aV (pv 0) C T.fb.mt (sV T) hr T.fb.bd .nil au (ae (bB T.jj) ag)))
  (ai (a0 (aV (aH (pv 0) rfl) T.cu.cl T.uP.mt (MH T) (hr.mono (by decide)) T.uP.bd .nil au (ae (pv 2) (ae (pv 1) ag)))) (ak (aK (pv 2)))),?_⟩
 obtain⟨dx,v,e,hv⟩:=hR.obj
 refine⟨_,rfl,R.r,dx,_,rfl,e,rfl,b,R,p,d,L,"name",rfl,hR,kb,fun nb hk H1 y hR1 kp1 tk1=>?_,fun nb hk=>k1 nb ?_⟩
 ·obtain⟨x,hx⟩:=fT.mp hk
  obtain⟨q1,q2,q3⟩:=k2 x hx
  obtain⟨dx1,v1,e1,hv1⟩:=hR1.obj
  obtain⟨dn,en⟩:=hR1.nm.obj
  have tk1':=tk1
  unfold cS at tk1'
  rw[iT hx]at tk1'
  exact⟨_,rfl,R.r,_,dx1,_,_,rfl,e1,C,T.fh,rfl,R.N.n,dn,_,rfl,en,rfl,_,rfl,_,rfl,R.N,L,k,y,x,_,_,_,_,rfl,hR1.nm,tk1',q1,q2,fun u l=>⟨_,rfl,q3 u l H1 y hR1 kp1 tk1⟩⟩
 ·cases hx:nameAt b p with
  |none=>rfl
  |some x=>exact absurd (fT.mpr ⟨x,hx⟩) hk
def za(K:PySem.W.Frag)(a:Ad):Sp:=fun vs H Q E=>∃(b:Bytes)(R:RA)(p d:Nat)(L:NL)(k:Kd),vs=[.ref R.r,.str (aZ k)]/\aq a K b R p d L H/\cV k=true/\gz K a b p E/\
 (cp b p->nameAt b p=none->Told K a E 3 (aM b p:Nat))/\∀x,nameAt b p=some x->(x∉L k->Told K a E 4 (aM b p:Nat))/\(x∈L k->∀H':Hp,aq a K b R (ay b p) d L H'->aC R H H'->Q (.str (strOf x)) H')
theorem As:aI ["self","kind","token"] ["self","kind"] (aD ve):=⟨rfl,rfl,rfl,by decide +kernel,rfl,by decide +kernel,by decide +kernel⟩
theorem IL(T:Tx P w K mg a):aB P w K mg base (a8 P w) 10 a.mz a.nH ["self","kind"] (za K a):=by
 refine T.iF.fn.bq As (fun vs H Q E h=>?_) (fun cdv A outer s H vs Q E hr h=>?_)
 ·obtain⟨_,_,_,_,_,_,rfl,_⟩:=h;rfl
 obtain⟨b,R,p,d,L,k,rfl,hR,ht,kb,k1,k2⟩:=h
 have C:=T.bC.cl
 refine⟨_,ai (aW (i:=2) As.nd rfl (Or.inl rfl) (aV (pv 0) C T.fb.mt (sV T) hr T.fb.bd .nil au (ae (bB T.jj) ag)))
  (ai (a0 (aV (aH (pv 0) rfl) T.cu.cl T.u9.mt (Gv T) (hr.mono (by decide)) T.u9.bd .nil au (ae (pv 2) (ae (pv 1) ag)))) (ak (aK (aH (pv 2) rfl)))),?_⟩
 obtain⟨dx,v,e,hv⟩:=hR.obj
 refine⟨_,rfl,R.r,dx,_,rfl,e,rfl,b,R,p,d,L,"name",rfl,hR,kb,fun nb hk H1 y hR1 kp1 tk1=>?_,fun nb hk=>k1 nb ?_⟩
 ·obtain⟨x,hx⟩:=fT.mp hk
  obtain⟨q1,q2⟩:=k2 x hx
  obtain⟨dx1,v1,e1,hv1⟩:=hR1.obj
  obtain⟨dn,en⟩:=hR1.nm.obj
  unfold cS at tk1
  rw[iT hx]at tk1
  have tk1':=tk1
  obtain⟨dt,ft,et,lt1,lt2,lt3,lt4,lt5⟩:=tk1'
  exact⟨_,rfl,R.r,_,dx1,_,_,rfl,e1,C,T.fh,rfl,R.N.n,dn,_,rfl,en,rfl,_,rfl,_,rfl,R.N,L,k,y,x,_,_,_,_,rfl,hR1.nm,tk1,ht,
   fun m=>⟨_,rfl,y,_,dt,ft,_,rfl,et,T.bo.cl,T.bV,lt2,q2 m H1 hR1 kp1⟩,q1⟩
 ·cases hx:nameAt b p with
  |none=>rfl
  |some x=>exact absurd (fT.mpr ⟨x,hx⟩) hk
def B1(K:PySem.W.Frag)(a:Ad):Sp:=fun vs H Q E=>∃(b:Bytes)(R:RA)(p d:Nat)(L:NL)(k:Kd),vs=[.ref R.r,.str (aZ k)]/\aq a K b R p d L H/\cV k=false/\gz K a b p E/\
 (cp b p->nameAt b p=none->Told K a E 3 (aM b p:Nat))/\∀x,nameAt b p=some x->(x∉L k->(L k).length=bD k->Told K a E 6 (aM b p:Nat))/\
  ((x∈L k\/(L k).length≠bD k)->∀H':Hp,aq a K b R (ay b p) d (iW L k x) H'->aC R H H'->Q (.str (strOf x)) H')
theorem Bc:aI ["self","kind","token"] ["self","kind"] (aD wM):=⟨rfl,rfl,rfl,by decide +kernel,rfl,by decide +kernel,by decide +kernel⟩
theorem Mo(T:Tx P w K mg a):aB P w K mg base (a8 P w) 10 a.lG a.mh ["self","kind"] (B1 K a):=by
 refine T.ir.fn.bq Bc (fun vs H Q E h=>?_) (fun cdv A outer s H vs Q E hr h=>?_)
 ·obtain⟨_,_,_,_,_,_,rfl,_⟩:=h;rfl
 obtain⟨b,R,p,d,L,k,rfl,hR,ht,kb,k1,k2⟩:=h
 have C:=T.bC.cl
 refine⟨_,ai (aW (i:=2) Bc.nd rfl (Or.inl rfl) (aV (pv 0) C T.fb.mt (sV T) hr T.fb.bd .nil au (ae (bB T.jj) ag)))
  (ai (a0 (aV (aH (pv 0) rfl) T.cu.cl T.xq.mt (JN T) (hr.mono (by decide)) T.xq.bd .nil au (ae (pv 2) (ae (pv 1) ag)))) (ak (aK (aH (pv 2) rfl)))),?_⟩
 obtain⟨dx,v,e,hv⟩:=hR.obj
 refine⟨_,rfl,R.r,dx,_,rfl,e,rfl,b,R,p,d,L,"name",rfl,hR,kb,fun nb hk H1 y hR1 kp1 tk1=>?_,fun nb hk=>k1 nb ?_⟩
 ·obtain⟨x,hx⟩:=fT.mp hk
  obtain⟨q1,q2⟩:=k2 x hx
  obtain⟨dx1,v1,e1,hv1⟩:=hR1.obj
  obtain⟨dn,en⟩:=hR1.nm.obj
  unfold cS at tk1
  rw[iT hx]at tk1
  refine⟨_,rfl,R.r,_,dx1,_,_,rfl,e1,C,T.fh,rfl,R.N.n,dn,_,rfl,en,rfl,_,rfl,_,rfl,R.N,L,k,y,x,_,_,_,_,rfl,hR1.nm,tk1,ht,q1,fun c H2 n2 kn=>?_⟩
  obtain⟨dt,ft,et,lt1,lt2,lt3,lt4,lt5⟩:=bT.keepR tk1 hR1 kn.keepR
  exact⟨_,rfl,y,_,dt,ft,_,rfl,et,T.bo.cl,T.bV,lt2,q2 c H2 (hR1.names kn n2) (kp1.trans kn.keepR)⟩
 ·cases hx:nameAt b p with
  |none=>rfl
  |some x=>exact absurd (fT.mpr ⟨x,hx⟩) hk
end Wale
end
section
set_option Elab.async false
set_option linter.all false
set_option maxRecDepth 100000
set_option maxHeartbeats 2000000
namespace Wale
open PySem PySem.Spec PyProof.Rows L2
open Wm
variable {P:Program}{w:World}{K:PySem.W.Frag}{mg:Str->Option Value}{base:Heap}{a:Ad}
abbrev Fp:=Addr->Prop
abbrev Rep(α:Type):=Hp->Fp->V->α->Prop
structure Good{α:Type}(r:Rep α):Prop where
 frame:∀{H H':Hp}{F:Fp}{v:V}{x:α},r H F v x->(∀b,F b->H' b=H b)->r H' F v x
 mono:∀{H:Hp}{F F':Fp}{v:V}{x:α},r H F v x->(∀b,F b->F' b)->r H F' v x
def cO(H0 H:Hp)(F:Fp):Prop:=∀b,F b->H0 b=none/\∃o,H b=some o
def b8(H H':Hp):Prop:=∀b,H b≠none->H' b≠none
def Md{α:Type}(r:Rep α)(H0 H:Hp)(v:V)(x:α):Prop:=∃F,r H F v x/\cO H0 H F
theorem b8.refl(H:Hp):b8 H H:=fun _ h=>h
theorem b8.trans{H H1 H2:Hp}(h:b8 H H1)(g:b8 H1 H2):b8 H H2:=fun b z=>g b (h b z)
theorem Ay{H H':Hp}(h:aN H H'):b8 H H':=fun b z=>by
 cases e:H b with
 |none=>exact absurd e z
 |some o=>rw[h b o e];exact fun q=>nomatch q
theorem qG{H:Hp}{p:Addr}{o:HO}:b8 H (upd H p o):=fun b z=>by
 by_cases h:b=p
 ·rw[h,az];exact fun q=>nomatch q
 ·rw[ao h];exact z
theorem b8.none{H H':Hp}(h:b8 H H'){b:Addr}(e:H' b=none):H b=none:=by
 cases q:H b with
 |none=>rfl
 |some o=>exact absurd e (h b (by rw[q];exact fun z=>nomatch z))
section
variable {b:Bytes}{R:RA}{p d:Nat}{L:NL}{H0 H H' H1:Hp}
structure ly(R:RA)(H:Hp):Prop where
 r:H R.r≠none
 td:H R.N.td≠none
 sd:H R.N.sd≠none
 ad:H R.N.ad≠none
theorem aq.cells(h:aq a K b R p d L H):ly R H:=by
 obtain⟨dx,v,e,-⟩:=h.obj
 obtain⟨k1,e1,-⟩:=h.nm.fJ
 obtain⟨k2,e2,-⟩:=h.nm.gI
 obtain⟨k3,e3,-⟩:=h.nm.fL
 exact⟨(by rw[e];exact fun z=>nomatch z),(by rw[e1];exact fun z=>nomatch z),(by rw[e2];exact fun z=>nomatch z),(by rw[e3];exact fun z=>nomatch z)⟩
theorem aC.grow(k:aC R H H')(c:ly R H'):b8 H H':=fun b z=>by
 by_cases h1:b=R.r
 ·rw[h1];exact c.r
 by_cases h2:b=R.N.td
 ·rw[h2];exact c.td
 by_cases h3:b=R.N.sd
 ·rw[h3];exact c.sd
 by_cases h4:b=R.N.ad
 ·rw[h4];exact c.ad
 cases e:H b with
 |none=>exact absurd e z
 |some o=>rw[k b o e h1 h2 h3 h4];exact fun q=>nomatch q
theorem cO.eq{F:Fp}(s:cO H0 H F)(c:ly R H0)(k:aC R H H'):∀b,F b->H' b=H b:=fun b hb=>by
 obtain⟨n,o,e⟩:=s b hb
 rw[e]
 exact k b o e (fun z=>c.r (by rw[<-z];exact n)) (fun z=>c.td (by rw[<-z];exact n)) (fun z=>c.sd (by rw[<-z];exact n)) (fun z=>c.ad (by rw[<-z];exact n))
theorem cO.keep{F:Fp}(s:cO H0 H F)(c:ly R H0)(k:aC R H H'):cO H0 H' F:=fun b hb=>⟨(s b hb).1,by rw[s.eq c k b hb];exact(s b hb).2⟩
theorem cO.old{F:Fp}(s:cO H1 H F)(g:b8 H0 H1):cO H0 H F:=fun b hb=>⟨g.none (s b hb).1,(s b hb).2⟩
theorem cO.same{F:Fp}(s:cO H0 H F)(k:aN H H'):cO H0 H' F:=fun b hb=>by
 obtain⟨n,o,e⟩:=s b hb
 exact⟨n,o,k b o e⟩
theorem cO.vG{F:Fp}(s:cO H0 H F)(k:aN H H'):∀b,F b->H' b=H b:=fun b hb=>by
 obtain⟨n,o,e⟩:=s b hb
 rw[e];exact k b o e
theorem cO.or{F F':Fp}(s:cO H0 H F)(s':cO H0 H F'):cO H0 H (fun b=>F b\/F' b):=fun b hb=>hb.elim (s b) (s' b)
theorem cO.put{F:Fp}{l:Addr}{o:HO}(s:cO H0 H F):cO H0 (upd H l o) F:=fun b hb=>by
 obtain⟨n,q,e⟩:=s b hb
 refine⟨n,?_⟩
 by_cases z:b=l
 ·rw[z,az];exact⟨_,rfl⟩
 ·rw[ao z];exact⟨q,e⟩
variable {α:Type}{r:Rep α}{v:V}{x:α}
theorem Md.keep(m:Md r H0 H v x)(G:Good r)(c:ly R H0)(k:aC R H H'):Md r H0 H' v x:=by
 obtain⟨F,h,s⟩:=m
 exact⟨F,G.frame h (s.eq c k),s.keep c k⟩
theorem Md.old(m:Md r H1 H v x)(g:b8 H0 H1):Md r H0 H v x:=by
 obtain⟨F,h,s⟩:=m
 exact⟨F,h,s.old g⟩
theorem Md.same(m:Md r H0 H v x)(G:Good r)(k:aN H H'):Md r H0 H' v x:=by
 obtain⟨F,h,s⟩:=m
 exact⟨F,G.frame h (s.vG k),s.same k⟩
theorem Md.put{l:Addr}{o:HO}(m:Md r H0 H v x)(G:Good r)(hl:H0 l≠none):Md r H0 (upd H l o) v x:=by
 obtain⟨F,h,s⟩:=m
 exact⟨F,G.frame h (fun b hb=>ao (fun z=>hl (by rw[<-z];exact(s b hb).1))),s.put⟩
theorem Md.map{β:Type}{r':Rep β}{y:β}(m:Md r H0 H v x)(h:∀F,r H F v x->r' H F v y):Md r' H0 H v y:=by
 obtain⟨F,q,s⟩:=m
 exact⟨F,h F q,s⟩
end
inductive dB{α β:Type}(r:α->β->Prop):List α->List β->Prop where
 |nil:dB r [] []
 |cons {x:α} {y:β} {xs:List α} {ys:List β}:r x y->dB r xs ys->dB r (x::xs) (y::ys)
theorem dB.imp{α β:Type}{r r':α->β->Prop}(h:∀x y,r x y->r' x y){xs:List α}{ys:List β}(q:dB r xs ys):dB r' xs ys:=by
 induction q with
 |nil=>exact .nil
 |cons a _ ih=>exact .cons (h _ _ a) ih
theorem dB.len{α β:Type}{r:α->β->Prop}{xs:List α}{ys:List β}(q:dB r xs ys):xs.length=ys.length:=by
 induction q with
 |nil=>rfl
 |cons a _ ih=>rw[List.length_cons,List.length_cons,ih]
theorem dB.app{α β:Type}{r:α->β->Prop}{xs xs':List α}{ys ys':List β}(q:dB r xs ys)(q':dB r xs' ys'):dB r (xs++xs') (ys++ys'):=by
 induction q with
 |nil=>exact q'
 |cons a _ ih=>exact .cons a ih
def cI{α:Type}(r:Rep α):Rep (List α):=fun H F v xs=>∃(l:Addr)(vs:List V)(F':Fp),v=.ref l/\F l/\¬F' l/\(∀b,F' b->F b)/\H l=some (.lst vs)/\dB (r H F') vs xs
theorem bW{α:Type}{r:Rep α}(G:Good r):Good (cI r) where
 frame:=by
  rintro H H' F v x ⟨l,vs,F',rfl,h1,h2,h3,h4,h5⟩ e
  exact⟨l,vs,F',rfl,h1,h2,h3,by rw[e l h1];exact h4,h5.imp fun v x q=>G.frame q fun b hb=>e b (h3 b hb)⟩
 mono:=by
  rintro H F F2 v x ⟨l,vs,F',rfl,h1,h2,h3,h4,h5⟩ m
  exact⟨l,vs,F',rfl,m l h1,h2,fun b hb=>m b (h3 b hb),h4,h5⟩
section
variable {α:Type}{r:Rep α}{H0 H H' H1:Hp}{v:V}{x:α}{vs:List V}{xs:List α}
def aE(r:Rep α)(H0 H:Hp)(vs:List V)(xs:List α):Prop:=∃F,dB (r H F) vs xs/\cO H0 H F
theorem aE.nil:aE r H0 H [] []:=⟨fun _=>False,.nil,fun _ h=>h.elim⟩
theorem aE.cons(G:Good r)(m:Md r H0 H v x)(ms:aE r H0 H vs xs):aE r H0 H (v::vs) (x::xs):=by
 obtain⟨F,h,s⟩:=m
 obtain⟨F',h',s'⟩:=ms
 exact⟨_,.cons (G.mono h fun b hb=>.inl hb) (h'.imp fun _ _ q=>G.mono q fun b hb=>.inr hb),s.or s'⟩
theorem aE.list{l:Addr}(G:Good r)(ms:aE r H0 H vs xs)(hl:H l=none)(g:b8 H0 H):Md (cI r) H0 (upd H l (.lst vs)) (.ref l) xs:=by
 obtain⟨F,h,s⟩:=ms
 have nl:¬F l:=fun z=>by obtain⟨_,o,e⟩:=s l z;rw[hl]at e;cases e
 refine⟨fun b=>b=l\/F b,⟨l,vs,F,rfl,.inl rfl,nl,fun b hb=>.inr hb,az,h.imp fun _ _ q=>G.frame q fun b hb=>ao fun z=>nl (by rw[<-z];exact hb)⟩,fun b hb=>?_⟩
 rcases hb with rfl|hb
 ·exact⟨g.none hl,_,az⟩
 ·exact s.put b hb
theorem Md.cell{l:Addr}(m:Md (cI r) H0 H (.ref l) xs):H0 l=none/\∃vs,H l=some (.lst vs)/\vs.length=xs.length:=by
 obtain⟨F,⟨l',vs,F',e,h1,h2,h3,h4,h5⟩,s⟩:=m
 cases e
 exact⟨(s _ h1).1,vs,h4,h5.len⟩
theorem Md.ref{v:V}(m:Md (cI r) H0 H v xs):∃l,v=.ref l:=by
 obtain⟨F,⟨l',vs,F',e,-⟩,s⟩:=m
 exact⟨l',e⟩
theorem Md.append{l:Addr}{vs:List V}(G:Good r)(m:Md (cI r) H0 H (.ref l) xs)(e:H l=some (.lst vs))(n:Md r H1 H v x)(hl:H1 l≠none)(g:b8 H0 H1):Md (cI r) H0 (upd H l (.lst (vs++[v]))) (.ref l) (xs++[x]):=by
 obtain⟨F,⟨l',vs',F',z,h1,h2,h3,h4,h5⟩,s⟩:=m
 cases z
 rw[e]at h4
 cases h4
 obtain⟨F2,q,s2⟩:=n
 have n2:¬F2 l:=fun z=>hl (s2 l z).1
 refine⟨fun b=>F b\/F2 b,⟨l,_,fun b=>F' b\/F2 b,rfl,.inl h1,fun z=>z.elim h2 n2,fun b hb=>hb.elim (fun z=>.inl (h3 b z)) .inr,az,?_⟩,(s.or (s2.old g)).put⟩
 refine dB.app (h5.imp fun _ _ z=>?_) (.cons ?_ .nil)
 ·exact G.mono (G.frame z fun b hb=>ao fun y=>h2 (by rw[<-y];exact hb)) fun b hb=>.inl hb
 ·exact G.mono (G.frame q fun b hb=>ao fun y=>n2 (by rw[<-y];exact hb)) fun b hb=>.inr hb
theorem Md.extend{l l2:Addr}{vs ws:List V}{ys:List α}(G:Good r)(m:Md (cI r) H0 H (.ref l) xs)(e:H l=some (.lst vs))(n:Md (cI r) H1 H (.ref l2) ys)(e2:H l2=some (.lst ws))(hl:H1 l≠none)(g:b8 H0 H1):Md (cI r) H0 (upd H l (.lst (vs++ws))) (.ref l) (xs++ys):=by
 obtain⟨F,⟨l',vs',F',z,h1,h2,h3,h4,h5⟩,s⟩:=m
 cases z
 rw[e]at h4
 cases h4
 obtain⟨F2,⟨l',ws',F2',z,k1,k2,k3,k4,k5⟩,s2⟩:=n
 cases z
 rw[e2]at k4
 cases k4
 have n2:¬F2 l:=fun z=>hl (s2 l z).1
 have n2':¬F2' l:=fun z=>n2 (k3 l z)
 refine⟨fun b=>F b\/F2 b,⟨l,_,fun b=>F' b\/F2' b,rfl,.inl h1,fun z=>z.elim h2 n2',fun b hb=>hb.elim (fun z=>.inl (h3 b z)) fun z=>.inr (k3 b z),az,?_⟩,(s.or (s2.old g)).put⟩
 refine dB.app (h5.imp fun _ _ z=>?_) (k5.imp fun _ _ z=>?_)
 ·exact G.mono (G.frame z fun b hb=>ao fun y=>h2 (by rw[<-y];exact hb)) fun b hb=>.inl hb
 ·exact G.mono (G.frame z fun b hb=>ao fun y=>n2' (by rw[<-y];exact hb)) fun b hb=>.inr hb
end
section
variable {b:Bytes}{R:RA}{p d p0 d0:Nat}{L L0:NL}{H0 H H' H1:Hp}
theorem aq.list{l:Addr}{vs ws:List V}(h:aq a K b R p d L H)(h0:aq a K b R p0 d0 L0 H0)(hl:H0 l=none)(e:H l=some (.lst vs)):aq a K b R p d L (upd H l (.lst ws)):=by
 obtain⟨dx,v,er,hv⟩:=h.obj
 obtain⟨k1,e1,t1⟩:=h.nm.fJ
 obtain⟨k2,e2,t2⟩:=h.nm.gI
 obtain⟨k3,e3,t3⟩:=h.nm.fL
 obtain⟨dn,en⟩:=h.nm.obj
 have nn:∀{q:Addr}{o:HO},H q=some o->(∀ws,o≠ .lst ws)->upd H l (.lst ws) q=some o:=fun{q o}eq no=>by
  rw[ao (fun z=>by rw[z,e]at eq;cases eq;exact no _ rfl)];exact eq
 refine⟨⟨dx,v,nn er (fun _ z=>nomatch z),?_⟩,?_,⟨⟨dn,nn en (fun _ z=>nomatch z)⟩,⟨k1,nn e1 (fun _ z=>nomatch z),t1⟩,⟨k2,nn e2 (fun _ z=>nomatch z),t2⟩,⟨k3,nn e3 (fun _ z=>nomatch z),t3⟩,h.nm.ne,h.nm.bd⟩,h.len,h.pl⟩
 ·rcases hv with hv|⟨x,ev,nb,dt,ft,et,rest⟩
  ·exact .inl hv
  ·exact .inr ⟨x,ev,nb,dt,ft,nn et (fun _ z=>nomatch z),rest⟩
 ·have nt:aO K H0 R.t (nums b)->aO K H R.t (nums b)->aO K (upd H l (.lst ws)) R.t (nums b):=fun s0 s=>by
   rcases s0 with s0|s0
   ·have ne:R.t≠l:=fun z=>by
     rcases s0 with q|⟨o,q⟩
     ·rw[z,hl]at q;cases q
     ·rw[z,hl]at q;cases q
    rcases s with s|s
    ·rcases s with q|⟨o,q⟩
     ·exact .inl (.inl (by rw[ao ne];exact q))
     ·exact .inl (.inr ⟨o,by rw[ao ne];exact q⟩)
    ·exact .inr s
   ·exact .inr s0
  exact nt h0.src h.src
end
end Wale
end
section
set_option Elab.async false
set_option linter.all false
set_option maxRecDepth 100000
set_option maxHeartbeats 2000000
namespace Wale
open PySem PySem.Spec PyProof.Rows L2
open Wm
open LsWale (ascii Fault eatSign eatWord eatOpen anyName newName oldName markName holdName wanted isName)
abbrev ah:=LsWale.St
abbrev aA:=LsWale.Env
variable {P:Program}{w:World}{K:PySem.W.Frag}{mg:Str->Option Value}{base:Heap}{a:Ad}
@[irreducible] def fR(K:PySem.W.Frag)(a:Ad)(f:LsWale.Tok->Str):Sp:=vh K a f
@[irreducible] def lZ(K:PySem.W.Frag)(a:Ad):Sp:=DT K a
@[irreducible] def q5(K:PySem.W.Frag)(a:Ad):Sp:=Cy K a
@[irreducible] def qN(K:PySem.W.Frag)(a:Ad):Sp:=DR K a
@[irreducible] def ma(K:PySem.W.Frag)(a:Ad):Sp:=C4 K a
@[irreducible] def rN(K:PySem.W.Frag)(a:Ad):Sp:=Dt K a
@[irreducible] def jc(K:PySem.W.Frag)(a:Ad):Sp:=A7 K a
@[irreducible] def t9(K:PySem.W.Frag)(a:Ad):Sp:=za K a
@[irreducible] def mj(K:PySem.W.Frag)(a:Ad):Sp:=B1 K a
theorem gH(T:Tx P w K mg a):aB P w K mg base (a8 P w) 7 a.lQ a.nF ["self"] (ma K a):=by unfold ma;exact jN T
theorem iH(T:Tx P w K mg a):aB P w K mg base (a8 P w) 8 a.mX a.mR ["self"] (rN K a):=by unfold rN;exact sD T
theorem iQ(T:Tx P w K mg a):aB P w K mg base (a8 P w) 9 a.mU a.nz ["self","text"] (lZ K a):=by unfold lZ;exact Ek T
theorem gR(T:Tx P w K mg a):aB P w K mg base (a8 P w) 9 a.lP a.mE ["self","text"] (fR K a bc):=by unfold fR;exact vM T
theorem xZ(T:Tx P w K mg a):aB P w K mg base (a8 P w) 9 a.mQ a.nG ["self","kind"] (fR K a eQ):=by unfold fR;exact sV T
theorem xF(T:Tx P w K mg a):aB P w K mg base (a8 P w) 10 a.lx a.nj ["self","text"] (q5 K a):=by unfold q5;exact Gq T
theorem xn(T:Tx P w K mg a):aB P w K mg base (a8 P w) 10 a.mP a.kW ["self","text"] (qN K a):=by unfold qN;exact Mb T
theorem tM(T:Tx P w K mg a):aB P w K mg base (a8 P w) 10 a.mG a.kZ ["self","kind"] (jc K a):=by unfold jc;exact KR T
theorem sv(T:Tx P w K mg a):aB P w K mg base (a8 P w) 10 a.mz a.nH ["self","kind"] (t9 K a):=by unfold t9;exact IL T
theorem rW(T:Tx P w K mg a):aB P w K mg base (a8 P w) 10 a.lG a.mh ["self","kind"] (mj K a):=by unfold mj;exact Mo T
def gc:LsWale.Tok->Bytes
 | .word x=>x
 | .sign c=>[c]
 |_=>[]
theorem ny(t:LsWale.Tok):bc t=strOf (gc t):=by
 cases t<;>first|rfl|exact Cp.symm
theorem zY{t:LsWale.Tok}{x:Bytes}{c:UInt8}{r:Bytes}(hx:x=c::r)(hc:LsWale.isLetter c=true)(h:wf t=true):gc t=x↔t=.word x:=by
 subst hx
 cases t with
 |word y=>exact⟨fun z=>by rw[show y=_ from z],fun z=>by cases z;rfl⟩
 |sign y=>
  refine⟨fun z=>?_,fun z=>by cases z⟩
  cases z
  exfalso
  have hs:LsWale.SIGNS.contains c=true:=h
  have:∀n:Nat,n<256->LsWale.SIGNS.contains (UInt8.ofNat n)=true->LsWale.isLetter (UInt8.ofNat n)=false:=by decide +kernel
  have:=this c.toNat c.toNat_lt
  rw[UInt8.ofNat_toNat]at this
  rw[this hs]at hc
  cases hc
 |num n=>exact⟨fun z=>(by cases z),fun z=>by cases z⟩
 |bad n=>exact⟨fun z=>(by cases z),fun z=>by cases z⟩
 |done=>exact⟨fun z=>(by cases z),fun z=>by cases z⟩
theorem LX{t:LsWale.Tok}{c:UInt8}(hc:LsWale.isLetter c=false)(h:wf t=true):gc t=[c]↔t=.sign c:=by
 cases t with
 |word y=>
  refine⟨fun z=>?_,fun z=>by cases z⟩
  have z:y=[c]:=z
  subst z
  exact absurd (show LsWale.isLetter c=true from h) (by rw[hc];decide)
 |sign y=>exact⟨fun z=>by cases z;rfl,fun z=>by cases z;rfl⟩
 |num n=>exact⟨fun z=>(by cases z),fun z=>by cases z⟩
 |bad n=>exact⟨fun z=>(by cases z),fun z=>by cases z⟩
 |done=>exact⟨fun z=>(by cases z),fun z=>by cases z⟩
def iN(x:String):Bool:=match ascii x with
 |c::_=>LsWale.isLetter c
 |[]=>false
theorem jB(b:Bytes)(p:Nat)(e:aA){x:String}(h:iN x=true):gc (aj b p)=ascii x↔(aa b p e).isWord x=true:=by
 rw[lj,decide_eq_true_eq]
 unfold iN at h
 cases q:ascii x with
 |nil=>rw[q]at h;cases h
 |cons c r=>rw[q]at h;exact zY rfl h (yo b p)
theorem gw(b:Bytes)(p:Nat)(e:aA){c:Char}(h:LsWale.isLetter (UInt8.ofNat c.toNat)=false):gc (aj b p)=[UInt8.ofNat c.toNat]↔(aa b p e).isSign c=true:=by
 rw[fY,decide_eq_true_eq]
 exact LX h (yo b p)
theorem eg{t:LsWale.Tok}{z:Str}{y:Bytes}(h:z=strOf y):bc t=z↔gc t=y:=by
 rw[ny,h]
 exact⟨qF,fun q=>by rw[q]⟩
theorem jx{b:Bytes}{p:Nat}{e:aA}{x:String}(h:(aa b p e).isWord x=true):cv (aj b p)=true:=by
 rw[lj,decide_eq_true_eq]at h
 rw[h];rfl
theorem gd{b:Bytes}{p:Nat}{e:aA}{c:Char}(h:(aa b p e).isSign c=true):cv (aj b p)=true:=by
 rw[fY,decide_eq_true_eq]at h
 rw[h];rfl
theorem sT{b:Bytes}{p:Nat}(h:cv (aj b p)=true):cp b p:=fun k z=>by rw[z]at h;cases h
def lst(e:aA):NL
 | .sizes=>e.sizes.getD []
 | .yarns=>e.yarns.getD []
 | .eC=>e.lets
 | .words=>e.words
 | .blocks=>e.blocks
 | .markers=>e.marks
 | .holders=>e.holders
theorem DP(b:Bytes)(p:Nat)(e:aA):anyName (aa b p e)=match nameAt b p with
  |some x=>.ok (x,aa b (ay b p) e)
  |none=>wanted (aa b p e):=by
 unfold anyName nameAt
 rw[dJ]
 cases q:aj b p with
 |word x=>
  dsimp only
  by_cases h:isName x=true
  ·rw[if_pos h,if_pos h]
   dsimp only
   rw[cE (by rw[q];rfl)]
  ·rw[if_neg h,if_neg h]
 |_=>rfl
theorem any_some{b:Bytes}{p:Nat}{e:aA}{x:Bytes}(h:nameAt b p=some x):anyName (aa b p e)=.ok (x,aa b (ay b p) e):=by rw[DP,h]
theorem any_none{b:Bytes}{p:Nat}{e:aA}(h:nameAt b p=none):anyName (aa b p e)=wanted (aa b p e):=by rw[DP,h]
section
variable {α β:Type}{b:Bytes}{R:RA}{p d:Nat}{L:NL}{e:aA}{H:Hp}{Q:VK}{E:XK}{r:Except Fault (α×ah)}
def Tl(K:PySem.W.Frag)(a:Ad)(E:XK)(r:Except Fault (α×ah)):Prop:=∀k pl:Nat,bF r k pl->Told K a E k pl
theorem Tl.bt(h:Tl K a E r)(hb:∀k pl,HB (aa b p e) k pl->bF r k pl):gz K a b p E:=fun k hk=>h k _ (hb k _ (Eh hk))
theorem Tl.err{k pl:Nat}(h:Tl K a E r)(hr:r=.error ⟨k,pl⟩):Told K a E k pl:=h k pl (.inl hr)
theorem Tl.want{f:β->Except Fault (α×ah)}(h:Tl K a E r)(nb:cp b p)(hr:r=(wanted (aa b p e):Except Fault β)>>=f):Told K a E 3 (aM b p:Nat):=
 h.err (by rw[hr,eY nb];rfl)
theorem gy{c:Char}{tx:Str}{f:ah->Except Fault (α×ah)}(hR:aq a K b R p d L H)(hT:Tl K a E r)(hr:r=eatSign c (aa b p e)>>=f)(htx:tx=strOf [UInt8.ofNat c.toNat]:=by decide +kernel)
  (hc:LsWale.isLetter (UInt8.ofNat c.toNat)=false:=by decide +kernel)
  (k:r=f (aa b (ay b p) e)->∀(H':Hp)(x:Addr),aq a K b R (ay b p) d L H'->aC R H H'->cS a b p H' x->Q (.ref x) H'):fR K a bc [.ref R.r,.str tx] H Q E:=by
 unfold fR
 refine⟨b,R,p,d,L,tx,rfl,hR,hT.bt (e:=e) fun k pl h=>?_,fun nb ht=>?_,fun nb ht=>?_⟩
 ·rw[hr,tD h];exact .inl rfl
 ·have h1:=(gw b p e hc).mp ((eg htx).mp ht)
  refine k ?_
  rw[hr];unfold eatSign;rw[if_pos h1,cE (gd h1)];rfl
 ·have h1:¬(aa b p e).isSign c=true:=fun z=>ht ((eg htx).mpr ((gw b p e hc).mpr z))
  refine hT.want (f:=f) (e:=e) nb ?_
  rw[hr];unfold eatSign;rw[if_neg h1]
theorem Aa{c:String}{tx:Str}{f:ah->Except Fault (α×ah)}(hR:aq a K b R p d L H)(hT:Tl K a E r)(hr:r=eatWord c (aa b p e)>>=f)(htx:tx=strOf (ascii c):=by decide +kernel)
  (hc:iN c=true:=by decide +kernel)
  (k:r=f (aa b (ay b p) e)->∀(H':Hp)(x:Addr),aq a K b R (ay b p) d L H'->aC R H H'->cS a b p H' x->Q (.ref x) H'):fR K a bc [.ref R.r,.str tx] H Q E:=by
 unfold fR
 refine⟨b,R,p,d,L,tx,rfl,hR,hT.bt (e:=e) fun k pl h=>?_,fun nb ht=>?_,fun nb ht=>?_⟩
 ·rw[hr,zK h];exact .inl rfl
 ·have h1:=(jB b p e hc).mp ((eg htx).mp ht)
  refine k ?_
  rw[hr];unfold eatWord;rw[if_pos h1,cE (jx h1)];rfl
 ·have h1:¬(aa b p e).isWord c=true:=fun z=>ht ((eg htx).mpr ((jB b p e hc).mpr z))
  refine hT.want (f:=f) (e:=e) nb ?_
  rw[hr];unfold eatWord;rw[if_neg h1]
theorem vZ{c:Char}{tx:Str}(hR:aq a K b R p d L H)(hT:Tl K a E r)(hb:∀k pl,HB (aa b p e) k pl->bF r k pl)
  (k1:(aa b p e).isSign c=true->∀H':Hp,aq a K b R (ay b p) d L H'->aC R H H'->Q (.bl true) H')
  (k2:(aa b p e).isSign c=false->cp b p->∀H':Hp,aq a K b R p d L H'->aC R H H'->Q (.bl false) H') (htx:tx=strOf [UInt8.ofNat c.toNat]:=by decide +kernel)
  (hc:LsWale.isLetter (UInt8.ofNat c.toNat)=false:=by decide +kernel):lZ K a [.ref R.r,.str tx] H Q E:=by
 unfold lZ
 exact⟨b,R,p,d,L,tx,rfl,hR,hT.bt hb,fun nb ht=>k1 ((gw b p e hc).mp ((eg htx).mp ht)),fun nb ht=>k2 (Bool.eq_false_iff.mpr fun z=>ht ((eg htx).mpr ((gw b p e hc).mpr z))) nb⟩
theorem nW{c:String}{tx:Str}(hR:aq a K b R p d L H)(hT:Tl K a E r)(hb:∀k pl,HB (aa b p e) k pl->bF r k pl)
  (k1:(aa b p e).isWord c=true->∀H':Hp,aq a K b R (ay b p) d L H'->aC R H H'->Q (.bl true) H')
  (k2:(aa b p e).isWord c=false->cp b p->∀H':Hp,aq a K b R p d L H'->aC R H H'->Q (.bl false) H') (htx:tx=strOf (ascii c):=by decide +kernel)
  (hc:iN c=true:=by decide +kernel):lZ K a [.ref R.r,.str tx] H Q E:=by
 unfold lZ
 exact⟨b,R,p,d,L,tx,rfl,hR,hT.bt hb,fun nb ht=>k1 ((jB b p e hc).mp ((eg htx).mp ht)),fun nb ht=>k2 (Bool.eq_false_iff.mpr fun z=>ht ((eg htx).mpr ((jB b p e hc).mpr z))) nb⟩
theorem vY{c:Char}{tx:Str}{f:ah->Except Fault (α×ah)}(hR:aq a K b R p d L H)(hd:d<=8)(hT:Tl K a E r)(hr:r=eatOpen c d (aa b p e)>>=f)
  (k:r=f (aa b (ay b p) e)->d<8->(aa b p e).isSign c=true->∀H':Hp,aq a K b R (ay b p) (d+1) L H'->aC R H H'->Q .aw H') (htx:tx=strOf [UInt8.ofNat c.toNat]:=by decide +kernel)
  (hc:LsWale.isLetter (UInt8.ofNat c.toNat)=false:=by decide +kernel):q5 K a [.ref R.r,.str tx] H Q E:=by
 unfold q5
 refine⟨b,R,p,d,L,tx,rfl,hR,hT.bt (e:=e) fun k pl h=>?_,fun nb ht=>?_,fun nb ht h8=>?_,fun nb ht h8=>?_⟩
 ·rw[hr,vF h];exact .inl rfl
 ·have h1:¬(aa b p e).isSign c=true:=fun z=>ht ((eg htx).mpr ((gw b p e hc).mpr z))
  refine hT.want (f:=f) (e:=e) nb ?_
  rw[hr];unfold eatOpen;rw[if_pos (Bool.eq_false_iff.mpr h1)]
 ·have h1:=(gw b p e hc).mp ((eg htx).mp ht)
  refine hT.err ?_
  rw[hr];unfold eatOpen;rw[if_neg (by rw[h1];decide),if_pos (by rw[h8];decide),i8];rfl
 ·have h1:=(gw b p e hc).mp ((eg htx).mp ht)
  refine k ?_ (by omega) h1
  rw[hr];unfold eatOpen;rw[if_neg (by rw[h1];decide),if_neg (by show ¬8<=d;omega),cE (gd h1)];rfl
theorem v8{c:Char}{tx:Str}{f:ah->Except Fault (α×ah)}(hR:aq a K b R p (d+1) L H)(hT:Tl K a E r)(hr:r=eatSign c (aa b p e)>>=f)
  (k:r=f (aa b (ay b p) e)->∀H':Hp,aq a K b R (ay b p) d L H'->aC R H H'->Q .aw H') (htx:tx=strOf [UInt8.ofNat c.toNat]:=by decide +kernel)
  (hc:LsWale.isLetter (UInt8.ofNat c.toNat)=false:=by decide +kernel):qN K a [.ref R.r,.str tx] H Q E:=by
 unfold qN
 refine⟨b,R,p,d,L,tx,rfl,hR,hT.bt (e:=e) fun k pl h=>?_,fun nb ht=>?_,fun nb ht=>?_⟩
 ·rw[hr,tD h];exact .inl rfl
 ·have h1:¬(aa b p e).isSign c=true:=fun z=>ht ((eg htx).mpr ((gw b p e hc).mpr z))
  refine hT.want (f:=f) (e:=e) nb ?_
  rw[hr];unfold eatSign;rw[if_neg h1]
 ·have h1:=(gw b p e hc).mp ((eg htx).mp ht)
  refine k ?_
  rw[hr];unfold eatSign;rw[if_pos h1,cE (gd h1)];rfl
theorem mS(hR:aq a K b R p d L H)(hT:Tl K a E r)(hb:∀k pl,HB (aa b p e) k pl->bF r k pl)
  (k:cp b p->∀(H':Hp)(x:Addr),aq a K b R p d L H'->aC R H H'->cS a b p H' x->Q (.ref x) H'):ma K a [.ref R.r] H Q E:=by
 unfold ma
 exact⟨b,R,p,d,L,rfl,hR,hT.bt hb,k⟩
theorem iA(hR:aq a K b R p d L H)(nb:cp b p)(k:∀(H':Hp)(x:Addr),aq a K b R (ay b p) d L H'->aC R H H'->cS a b p H' x->Q (.ref x) H'):rN K a [.ref R.r] H Q E:=by
 unfold rN
 exact⟨b,R,p,d,L,rfl,hR,fun k hk=>absurd hk (nb k),fun _=>k⟩
theorem rS{k:Kd}{f:Bytes×ah->Except Fault (α×ah)}{m most:Nat}{also:List Bytes}(hR:aq a K b R p d L H)(hT:Tl K a E r)(hr:r=newName m most (aa b p e) also>>=f)(hm:m=(L k).length)(hmost:most=bD k)
  (hu:∀x,(e.told x=true\/also.contains x=true)↔¬dh L x)
  (kk:∀x,nameAt b p=some x->dh L x->(L k).length≠bD k->r=f (x,aa b (ay b p) e)->∀(H':Hp)(y:Addr),aq a K b R (ay b p) d L H'->aC R H H'->cS a b p H' y->Q (.ref y) H'):jc K a [.ref R.r,.str (aZ k)] H Q E:=by
 subst hm hmost
 unfold jc
 refine⟨b,R,p,d,L,k,rfl,hR,hT.bt (e:=e) fun k pl h=>?_,fun nb hn=>?_,fun x hx=>?_⟩
 ·rw[hr,Gu h];exact .inl rfl
 ·refine hT.err ?_
  rw[hr];unfold newName;rw[any_none hn,eY nb];rfl
 have h0:r=(newName (L k).length (bD k) (aa b p e) also>>=f):=hr
 have bd:=hR.nm.bd k
 refine⟨fun hn=>hT.err ?_,fun hn hl=>hT.err ?_,fun hn hl=>kk x hx hn hl ?_⟩
 ·rw[h0];unfold newName;rw[any_some hx]
  show((if e.told x=true\/also.contains x=true then _ else _)>>=f)=_
  rw[if_pos ((hu x).mpr hn),i8];rfl
 ·rw[h0];unfold newName;rw[any_some hx]
  show((if e.told x=true\/also.contains x=true then _ else _)>>=f)=_
  rw[if_neg (fun z=>(hu x).mp z hn)]
  show((if bD k<=(L k).length then _ else _)>>=f)=_
  rw[if_pos (by omega),i8];rfl
 ·rw[h0];unfold newName;rw[any_some hx]
  show((if e.told x=true\/also.contains x=true then _ else _)>>=f)=_
  rw[if_neg (fun z=>(hu x).mp z hn)]
  show((if bD k<=(L k).length then _ else _)>>=f)=_
  rw[if_neg (by omega)];rfl
theorem rf{k:Kd}{f:Bytes×ah->Except Fault (α×ah)}{l:List Bytes}(hR:aq a K b R p d L H)(hk:cV k=true)(hT:Tl K a E r)(hr:r=oldName l (aa b p e)>>=f)(hl:l=L k)
  (kk:∀x,r=f (x,aa b (ay b p) e)->∀H':Hp,aq a K b R (ay b p) d L H'->aC R H H'->Q (.str (strOf x)) H'):t9 K a [.ref R.r,.str (aZ k)] H Q E:=by
 subst hl
 unfold t9
 refine⟨b,R,p,d,L,k,rfl,hR,hk,hT.bt (e:=e) fun k pl h=>?_,fun nb hn=>?_,fun x hx=>⟨fun hm=>hT.err ?_,fun hm=>kk x ?_⟩⟩
 ·rw[hr,KH h];exact .inl rfl
 ·refine hT.err ?_
  rw[hr];unfold oldName;rw[any_none hn,eY nb];rfl
 ·rw[hr];unfold oldName;rw[any_some hx]
  show((if(L k).contains x=false then _ else _)>>=f)=_
  rw[if_pos (by rw[Bool.eq_false_iff];exact fun z=>hm (by simpa using z)),i8];rfl
 ·rw[hr];unfold oldName;rw[any_some hx]
  show((if(L k).contains x=false then _ else _)>>=f)=_
  rw[if_neg (by rw[show(L k).contains x=true by simpa using hm];decide)];rfl
def pM(e:aA)(x:Bytes):aA:=if e.marks.contains x=true then e else{e with marks:=e.marks++[x]}
def nJ(e:aA)(x:Bytes):aA:=if e.holders.contains x=true then e else{e with holders:=e.holders++[x]}
theorem LK(e:aA)(x:Bytes):iW (lst e) .markers x=lst (pM e x):=by
 unfold iW pM
 by_cases h:x∈e.marks
 ·rw[if_pos (show x∈lst e .markers from h),if_pos (by simpa using h)]
 ·rw[if_neg (show x∉lst e .markers from h),if_neg (by simpa using h)]
  funext j
  cases j<;>rfl
theorem FA(e:aA)(x:Bytes):iW (lst e) .holders x=lst (nJ e x):=by
 unfold iW nJ
 by_cases h:x∈e.holders
 ·rw[if_pos (show x∈lst e .holders from h),if_pos (by simpa using h)]
 ·rw[if_neg (show x∉lst e .holders from h),if_neg (by simpa using h)]
  funext j
  cases j<;>rfl
theorem rZ{f:Bytes×ah->Except Fault (α×ah)}(hR:aq a K b R p d (lst e) H)(hT:Tl K a E r)(hr:r=markName (aa b p e)>>=f)
  (kk:∀x,r=f (x,aa b (ay b p) (pM e x))->∀H':Hp,aq a K b R (ay b p) d (lst (pM e x)) H'->aC R H H'->Q (.str (strOf x)) H'):mj K a [.ref R.r,.str "markers"] H Q E:=by
 unfold mj
 refine⟨b,R,p,d,lst e,.markers,rfl,hR,rfl,hT.bt (e:=e) fun k pl h=>?_,fun nb hn=>?_,fun x hx=>⟨fun hm hl=>hT.err ?_,fun hc H' hR' kp=>kk x ?_ H' (by rw[<-LK];exact hR') kp⟩⟩
 ·rw[hr,Ga h];exact .inl rfl
 ·refine hT.err ?_
  rw[hr];unfold markName;rw[any_none hn,eY nb];rfl
 ·rw[hr];unfold markName;rw[any_some hx]
  show((if e.marks.contains x=true then _ else _)>>=f)=_
  have hm':x∉e.marks:=hm
  have hl':LsWale.MARKS<=e.marks.length:=Nat.le_of_eq (Eq.symm hl)
  rw[if_neg (by simpa using hm')]
  show((if LsWale.MARKS<=e.marks.length then _ else _)>>=f)=_
  rw[if_pos hl',i8];rfl
 ·rw[hr];unfold markName;rw[any_some hx]
  show((if e.marks.contains x=true then _ else _)>>=f)=_
  unfold pM
  by_cases h:e.marks.contains x=true
  ·rw[if_pos h,if_pos h];rfl
  ·rw[if_neg h,if_neg h]
   show((if LsWale.MARKS<=e.marks.length then _ else _)>>=f)=_
   have h0:x∉e.marks:=by simpa using h
   have h1:e.marks.length≠64:=hc.resolve_left h0
   have h2:e.marks.length<=64:=hR.nm.bd .markers
   rw[if_neg (by show ¬64<=_;omega)];rfl
theorem AZ{f:Bytes×ah->Except Fault (α×ah)}(hR:aq a K b R p d (lst e) H)(hT:Tl K a E r)(hr:r=holdName (aa b p e)>>=f)
  (kk:∀x,r=f (x,aa b (ay b p) (nJ e x))->∀H':Hp,aq a K b R (ay b p) d (lst (nJ e x)) H'->aC R H H'->Q (.str (strOf x)) H'):mj K a [.ref R.r,.str "holders"] H Q E:=by
 unfold mj
 refine⟨b,R,p,d,lst e,.holders,rfl,hR,rfl,hT.bt (e:=e) fun k pl h=>?_,fun nb hn=>?_,fun x hx=>⟨fun hm hl=>hT.err ?_,fun hc H' hR' kp=>kk x ?_ H' (by rw[<-FA];exact hR') kp⟩⟩
 ·rw[hr,GF h];exact .inl rfl
 ·refine hT.err ?_
  rw[hr];unfold holdName;rw[any_none hn,eY nb];rfl
 ·rw[hr];unfold holdName;rw[any_some hx]
  show((if e.holders.contains x=true then _ else _)>>=f)=_
  have hm':x∉e.holders:=hm
  have hl':LsWale.HOLDERS<=e.holders.length:=Nat.le_of_eq (Eq.symm hl)
  rw[if_neg (by simpa using hm')]
  show((if LsWale.HOLDERS<=e.holders.length then _ else _)>>=f)=_
  rw[if_pos hl',i8];rfl
 ·rw[hr];unfold holdName;rw[any_some hx]
  show((if e.holders.contains x=true then _ else _)>>=f)=_
  unfold nJ
  by_cases h:e.holders.contains x=true
  ·rw[if_pos h,if_pos h];rfl
  ·rw[if_neg h,if_neg h]
   show((if LsWale.HOLDERS<=e.holders.length then _ else _)>>=f)=_
   have h0:x∉e.holders:=by simpa using h
   have h1:e.holders.length≠16:=hc.resolve_left h0
   have h2:e.holders.length<=16:=hR.nm.bd .holders
   rw[if_neg (by show ¬16<=_;omega)];rfl
end
end Wale
end
section
set_option Elab.async false
set_option linter.all false
set_option maxRecDepth 100000
set_option maxHeartbeats 2000000
namespace Wale
open PySem PySem.Spec PyProof.Rows L2
open Wm
variable {P:Program}{w:World}{K:PySem.W.Frag}{mg:Str->Option Value}{base:Heap}{a:Ad}
structure da(H0 H H':Hp)(l:Addr):Prop where
 keep:∀b o,H b=some o->b≠l->H' b=some o
 new:H0 l=none
 lst:(∃vs,H l=some (.lst vs))\/H l=none
 grow:b8 H H'
section
variable {b:Bytes}{R:RA}{p d p0 d0:Nat}{L L0:NL}{H0 H H' H1:Hp}{l:Addr}
theorem aC.bM(k:aC R H0 H)(c:da H0 H H' l):aC R H0 H':=fun b o e n1 n2 n3 n4=>c.keep b o (k b o e n1 n2 n3 n4) (fun z=>by rw[z,c.new]at e;cases e)
theorem aq.bM(h:aq a K b R p d L H)(h0:aq a K b R p0 d0 L0 H0)(c:da H0 H H' l):aq a K b R p d L H':=by
 obtain⟨dx,v,er,hv⟩:=h.obj
 obtain⟨k1,e1,t1⟩:=h.nm.fJ
 obtain⟨k2,e2,t2⟩:=h.nm.gI
 obtain⟨k3,e3,t3⟩:=h.nm.fL
 obtain⟨dn,en⟩:=h.nm.obj
 have nn:∀{q:Addr}{o:HO},H q=some o->(∀ws,o≠ .lst ws)->H' q=some o:=fun{q o}eq no=>c.keep q o eq fun z=>by
  rcases c.lst with ⟨vs,e⟩|e
  ·rw[z,e]at eq;cases eq;exact no _ rfl
  ·rw[z,e]at eq;cases eq
 refine⟨⟨dx,v,nn er (fun _ z=>nomatch z),?_⟩,?_,⟨⟨dn,nn en (fun _ z=>nomatch z)⟩,⟨k1,nn e1 (fun _ z=>nomatch z),t1⟩,⟨k2,nn e2 (fun _ z=>nomatch z),t2⟩,⟨k3,nn e3 (fun _ z=>nomatch z),t3⟩,h.nm.ne,h.nm.bd⟩,h.len,h.pl⟩
 ·rcases hv with hv|⟨x,ev,nb,dt,ft,et,rest⟩
  ·exact .inl hv
  ·exact .inr ⟨x,ev,nb,dt,ft,nn et (fun _ z=>nomatch z),rest⟩
 ·rcases h0.src with s0|s0
  ·have ne:R.t≠l:=fun z=>by
    rcases s0 with q|⟨o,q⟩
    ·rw[z,c.new]at q;cases q
    ·rw[z,c.new]at q;cases q
   rcases h.src with s|s
   ·rcases s with q|⟨o,q⟩
    ·exact .inl (.inl (c.keep _ _ q ne))
    ·exact .inl (.inr ⟨o,c.keep _ _ q ne⟩)
   ·exact .inr s
  ·exact .inr s0
end
def Bu(K:PySem.W.Frag):List V->Hp->VK->Prop:=fun xs H Q=>∃(x:V)(C:Addr)(t:Value)(b:Bool),xs=[x,.ref C]/\eO K H x t/\PySem.W.kitOne K t (.ref C)=some b/\Q (.bl b) H
theorem MF{X:Cx}:gv X (.builtin "isinstance") (Bu X.K):=by
 intro pins s σ H xs us Q I r h
 obtain⟨x,C,t,b,rfl,ty,e,q⟩:=h
 cases r with
 |cons r1 r2=>
  cases r2 with
  |cons r3 r4=>
   cases r4
   cases (show _=Value.ref C from r3)
   exact Lq I r1 ty e fun tk=>⟨.bl b,H,I.tok _,rfl,q⟩
theorem GG(T:Tx P w K mg a){H:Hp}{x C dx f:Addr}{fs:List (Str×V)}{n:Str}(e:H x=some (.ins C dx fs))(co:OwnCls K mg n C f)(io:rh K C):eO K H (.ref x) (.ref C):=
 .ins e co.cl io.ha T.JQ T.JW io.hm
theorem Ic{X:Cx}{e:Expr}{te:TE}{C f:Addr}{n:Str}{p1 p2 pos:Pos}(hb:X.mg "isinstance"=none)(co:OwnCls X.K X.mg n C f)(he:PE X e te)(hg:Gl X "isinstance":=by rfl)(hg2:Gl X n:=by rfl)(hd:(n==("__debug__":Str))=false:=by decide)
  (s1:starEach [e,.Name n p2] X.env=[(false,eval e X.env),(false,eval (.Name n p2) X.env)]:=by rfl) (s2:starEach [.Name n p2] X.env=[(false,eval (.Name n p2) X.env)]:=by rfl):
  PE X (.Call (.Name "isinstance" p1) [e,.Name n p2] [] pos) (pV (Bu X.K) (bO te (bO (tC (.ref C)) d9))):=
 mI MF hg hb rfl (ae he (ae (oE hg2 co.at_ (show RelV (.ref C) (.ref C)from rfl) hd) ag s2) (by rw[s1,s2])) (by decide) (by decide) (by rw[s1,s2]) (by rw[s2];rfl)
abbrev ba:=LsWale.Sum
def gJ(c:UInt8):Nat:=if c=43\/c=45 then 1 else 2
def gX:ba->Nat
 | .op c _ _ _=>gJ c
 |_=>0
def cX:ba->Nat
 | .op _ _ x y=>cX x+cX y+1
 |_=>0
theorem Jb(c:UInt8):gJ c=1\/gJ c=2:=by
 unfold gJ
 split
 ·exact .inl rfl
 ·exact .inr rfl
inductive iC(f:ba):List (UInt8×ba)->ba->Prop where
 |nil:iC f [] f
 |snoc {l:List (UInt8×ba)} {y z:ba} {c:UInt8} {p:Nat}:iC f l y->iC f (l++[(c,z)]) (.op c p y z)
theorem iC.len{f x:ba}{l:List (UInt8×ba)}(h:iC f l x):l.length<=cX x:=by
 induction h with
 |nil=>exact Nat.zero_le _
 |snoc _ ih=>
  rw[List.length_append]
  show _+1<=_+_+1
  omega
theorem iC.lv{f x:ba}{l:List (UInt8×ba)}{n:Nat}(h:iC f l x)(hl:∀pr∈l,gJ pr.1=n)(hn:l≠[]):gX x=n:=by
 cases h with
 |nil=>exact absurd rfl hn
 |snoc _=>exact hl _ (List.mem_append_right _ (List.mem_cons_self ..))
def rm:Rep ba:=fun _ _ v x=>gX x=0/\v=.str (strOf (LsWale.sumText x))
def tE(r:Rep ba):Rep (UInt8×ba):=fun H F v x=>∃(t:Addr)(xv:V),v=.ref t/\F t/\H t=some (.tup [.str (strOf [x.1]),xv])/\r H F xv x.2
def BW(l:Nat)(fv:V)(pl:Addr):List (Str×V):=[("level",.int (l:Int)),("first",fv),("pairs",.ref pl)]
structure IX(a:Ad)(r:Rep ba)(H:Hp)(F:Fp)(x:ba)(c dx pl:Addr)(fv:V)(f:ba)(F':Fp)(vs:List V)(prs:List (UInt8×ba))(l:Nat):Prop where
 fc:F c
 fp:F pl
 np:¬F' pl
 sub:∀b,F' b->F b
 obj:H c=some (.ins a.c8 dx (BW l fv pl))
 lst:H pl=some (.lst vs)
 fst:r H F' fv f
 ro:gX f≠l
 all:dB (tE r H F') vs prs
 ne:prs≠[]
 jQ:l=1\/l=2
 nA:∀pr∈prs,gJ pr.1=l
 blt:iC f prs x
def uI(a:Ad)(r:Rep ba):Rep ba:=fun H F v x=>∃c dx pl fv f F' vs prs l,v=.ref c/\IX a r H F x c dx pl fv f F' vs prs l
def cg(a:Ad):Nat->Rep ba
 |0=>rm
 |n+1=>fun H F v x=>rm H F v x\/uI a (cg a n) H F v x
theorem va:Good rm:=⟨fun h _=>h,fun h _=>h⟩
theorem ux{r:Rep ba}(G:Good r):Good (tE r) where
 frame:=by
  rintro H H' F v x ⟨t,xv,rfl,h1,h2,h3⟩ e
  exact⟨t,xv,rfl,h1,by rw[e t h1];exact h2,G.frame h3 e⟩
 mono:=by
  rintro H F F' v x ⟨t,xv,rfl,h1,h2,h3⟩ m
  exact⟨t,xv,rfl,m t h1,h2,G.mono h3 m⟩
theorem zX{r:Rep ba}(G:Good r):Good (uI a r) where
 frame:=by
  rintro H H' F v x ⟨c,dx,pl,fv,f,F',vs,prs,l,rfl,h⟩ e
  have e':∀b,F' b->H' b=H b:=fun b hb=>e b (h.sub b hb)
  exact⟨c,dx,pl,fv,f,F',vs,prs,l,rfl,h.fc,h.fp,h.np,h.sub,by rw[e _ h.fc];exact h.obj,by rw[e _ h.fp];exact h.lst,G.frame h.fst e',h.ro,h.all.imp fun _ _ q=>(ux G).frame q e',h.ne,h.jQ,h.nA,h.blt⟩
 mono:=by
  rintro H F F2 v x ⟨c,dx,pl,fv,f,F',vs,prs,l,rfl,h⟩ m
  exact⟨c,dx,pl,fv,f,F',vs,prs,l,rfl,m _ h.fc,m _ h.fp,h.np,fun b hb=>m b (h.sub b hb),h.obj,h.lst,h.fst,h.ro,h.all,h.ne,h.jQ,h.nA,h.blt⟩
theorem dk(a:Ad):∀n,Good (cg a n)
 |0=>va
 |n+1=>⟨fun h e=>h.elim (fun z=>.inl (va.frame z e)) fun z=>.inr ((zX (dk a n)).frame z e),fun h m=>h.elim (fun z=>.inl (va.mono z m)) fun z=>.inr ((zX (dk a n)).mono z m)⟩
theorem Ej{r r':Rep ba}{H:Hp}{F:Fp}(h:∀v x,r H F v x->r' H F v x){v:V}{x:UInt8×ba}(q:tE r H F v x):tE r' H F v x:=by
 obtain⟨t,xv,e,h1,h2,h3⟩:=q
 exact⟨t,xv,e,h1,h2,h _ _ h3⟩
theorem nQ(a:Ad):∀(n:Nat){H:Hp}{F:Fp}{v:V}{x:ba},cg a n H F v x->cg a (n+1) H F v x
 |0,_,_,_,_,h=>.inl h
 |n+1,_,_,_,_,h=>h.elim .inl fun⟨c,dx,pl,fv,f,F',vs,prs,l,e,q⟩=>
  .inr ⟨c,dx,pl,fv,f,F',vs,prs,l,e,q.fc,q.fp,q.np,q.sub,q.obj,q.lst,nQ a n q.fst,q.ro,q.all.imp fun _ _ z=>Ej (fun _ _ y=>nQ a n y) z,q.ne,q.jQ,q.nA,q.blt⟩
theorem MJ(a:Ad){m n:Nat}(h:m<=n){H:Hp}{F:Fp}{v:V}{x:ba}(q:cg a m H F v x):cg a n H F v x:=by
 induction h with
 |refl=>exact q
 |step _ ih=>exact nQ a _ ih
theorem Ap(a:Ad)(n:Nat){H:Hp}{F:Fp}{v:V}{x:ba}(h:rm H F v x):cg a n H F v x:=MJ a (Nat.zero_le n) h
theorem DX{n:Nat}{H:Hp}{F:Fp}{v:V}{x:ba}(h:cg a n H F v x):(gX x=0/\v=.str (strOf (LsWale.sumText x)))\/∃m,n=m+1/\uI a (cg a m) H F v x:=by
 cases n with
 |zero=>exact .inl h
 |succ m=>exact h.elim .inl fun z=>.inr ⟨m,rfl,z⟩
def Ht(a:Ad):Sp:=fun vs H Q _=>∃(v:V)(l n:Nat)(F:Fp)(x:ba),vs=[v,.int (l:Int)]/\l≠0/\cg a n H F v x/\Q (.bl (decide (gX x=l))) H
theorem GB:aI ["node","level"] ["node","level"] (aD x4):=⟨rfl,rfl,rfl,by decide +kernel,rfl,by decide +kernel,by decide +kernel⟩
theorem LQ(T:Tx P w K mg a):aB P w K mg base bx 1 a.o4 a.qa ["node","level"] (Ht a):=by
 refine T.Ar.fn.ok GB (fun vs H Q E h=>?_) (fun cdv A outer s H vs Q E hr h=>?_)
 ·obtain⟨_,_,_,_,_,rfl,_⟩:=h;rfl
 obtain⟨v,l,n,F,x,rfl,hl,hs,q⟩:=h
 refine⟨_,ak (aK (BZ (Ic T.KP T.jb (pv 0)) (sf (jq b9 (aH (pv 0) rfl) (pv 1) (aX _))))),?_⟩
 rcases DX hs with ⟨h0,rfl⟩|⟨m,rfl,c,dx,pl,fv,f,F',vs,prs,l',rfl,h⟩
 ·refine⟨_,rfl,_,_,_,false,rfl,.str _,T.J6,_,rfl,?_⟩
  rw[h0,decide_eq_false (fun z=>hl z.symm)]at q
  exact df q
 ·refine⟨_,rfl,_,_,_,true,rfl,GG T h.obj T.jb T.EZ,T.G2,_,rfl,?_⟩
  refine b5 ⟨_,rfl,c,_,dx,_,_,rfl,h.obj,T.jb.cl,T.Ac,rfl,_,rfl,rfl,?_⟩
  rw[fM]
  rw[h.blt.lv h.nA h.ne]at q
  rw[show decide ((l':Int)=(l:Int))=decide (l'=l)from decide_eq_decide.mpr (by omega)]
  exact q
end Wale
end
section
set_option Elab.async false
set_option linter.all false
set_option maxRecDepth 100000
set_option maxHeartbeats 2000000
namespace Wale
open PySem PySem.Spec PyProof.Rows L2
open Wm
variable {P:Program}{w:World}{K:PySem.W.Frag}{mg:Str->Option Value}{base:Heap}{a:Ad}
def JK(a:Ad):Sp:=fun vs H Q _=>∃(x dx:Addr)(l:Nat)(fv:V),vs=[.ref x,.int (l:Int),fv]/\H x=some (.ins a.c8 dx [])/\
 ∀(H':Hp)(pl:Addr),H pl=none->H' x=some (.ins a.c8 dx (BW l fv pl))->H' pl=some (.lst [])->(∀b o,H b=some o->b≠x->H' b=some o)->Q .aw H'
theorem Jo:aI ["self","level","first"] ["self","level","first"] (aD xi):=⟨rfl,rfl,rfl,by decide +kernel,rfl,by decide +kernel,by decide +kernel⟩
theorem Fk(T:Tx P w K mg a):aB P w K mg base bx 1 a.jX a.lO ["self","level","first"] (JK a):=by
 refine T.yQ.1.ok Jo (fun vs H Q E h=>?_) (fun cdv A outer s H vs Q E hr h=>?_)
 ·obtain⟨_,_,_,_,rfl,_⟩:=h;rfl
 obtain⟨x,dx,l,fv,rfl,hx,q⟩:=h
 refine⟨_,ai (cU (pv 0) (pv 1) rfl) (ai (cU (pv 0) (pv 2) rfl) (ak (cU (pv 0) (bK ag) rfl))),?_⟩
 have C:=T.jb.cl
 refine⟨_,rfl,_,rfl,x,_,dx,_,rfl,hx,C,T.Ac,(by show 0<1000;decide),?_⟩
 refine⟨_,rfl,_,rfl,x,_,dx,_,rfl,az,C,T.JG,(by show 1<1000;decide),?_⟩
 refine⟨(by show 0<=sizeLine;decide),fun pl hp=>?_⟩
 have nx:x≠pl:=fun z=>by rw[<-z,az]at hp;cases hp
 have hp0:H pl=none:=by rw[ao (fun z=>nx z.symm),ao (fun z=>nx z.symm)]at hp;exact hp
 refine⟨_,rfl,x,_,dx,_,rfl,by rw[ao nx];exact az,C,T.xQ,(by show 2<1000;decide),?_⟩
 refine q _ pl hp0 az ?_ fun b o e hb=>?_
 ·rw[ao (fun z=>nx z.symm)];exact az
 ·rw[ao hb,ao (fun z=>by rw[z,hp0]at e;cases e),ao hb,ao hb];exact e
def Cu(a:Ad)(n:Nat):Sp:=fun vs H Q _=>∃(l:Nat)(c:UInt8)(lv rv:V)(xl xr:ba)(H0:Hp)(FL FR:Fp)(p:Nat),vs=[.int (l:Int),lv,.str (strOf [c]),rv]/\gJ c=l/\
 ((gX xl=l/\cg a (n+1) H FL lv xl)\/(gX xl≠l/\cg a n H FL lv xl))/\cg a n H FR rv xr/\cO H0 H FL/\cO H0 H FR/\(∀b,FL b->¬FR b)/\b8 H0 H/\cX xl<sizeLine/\
 ∀(H':Hp)(v:V)(q:Addr),da H0 H H' q->Md (cg a (n+1)) H0 H' v (.op c p xl xr)->Q v H'
theorem A4:aI ["level","left","sign","right","chain"] ["level","left","sign","right"] (aD vw):=⟨rfl,rfl,rfl,by decide +kernel,rfl,by decide +kernel,by decide +kernel⟩
theorem Bf(T:Tx P w K mg a)(n:Nat):aB P w K mg base bx 3 a.pA a.nM ["level","left","sign","right"] (Cu a n):=by
 refine aG.ok (k:=2) T.ud.fn A4 (fun vs H Q E h=>?_) (fun cdv A outer s H vs Q E hr h=>?_)
 ·obtain⟨_,_,_,_,_,_,_,_,_,_,rfl,_⟩:=h;rfl
 obtain⟨l,c,lv,rv,xl,xr,H0,FL,FR,p,rfl,hc,hL,hR,sL,sR,dj,gr,hz,q⟩:=h
 have jQ:=Jb c
 rw[hc]at jQ
 have l0:l≠0:=by omega
 refine⟨_,ai (aW (i:=4) A4.nd rfl (Or.inl rfl) (Af (di (aS T.Ar (LQ T) (hr.mono (by decide)) a3 (ae (pv 1) (ae (pv 0) ag))))
   (pv 1) (eA T.jb.dU (Fk T) hr rfl T.jb.at_ T.yQ.2 .nil a3 (ae (pv 0) (ae (pv 1) ag)))))
  (ai (a0 (dQ PySem.F.plainAttrs_list PySem.F.slot_list_append PySem.F.type_list_append fU (aH (pv 4) rfl) (ae (jT (ae (pv 2) (ae (pv 3) ag))) ag)))
  (ak (aK (pv 4)))),?_⟩
 have aL:∀b,FL b->H b≠none:=fun b hb=>by obtain⟨_,o,e⟩:=sL b hb;rw[e];exact fun z=>nomatch z
 have aR:∀b,FR b->H b≠none:=fun b hb=>by obtain⟨_,o,e⟩:=sR b hb;rw[e];exact fun z=>nomatch z
 rcases hL with ⟨hlv,hL⟩|⟨hlv,hL⟩
 ·refine⟨_,rfl,_,rfl,lv,l,n+1,FL,xl,rfl,l0,hL,_,rfl,?_⟩
  rw[decide_eq_true hlv]
  refine b5 ⟨_,rfl,?_⟩
  rcases DX hL with ⟨h0,-⟩|⟨m,em,co,dx,pl,fv,f,F',vs,prs,l',rfl,h⟩
  ·exact absurd (h0.symm.trans hlv) (fun z=>l0 z.symm)
  cases em
  have el:l'=l:=(h.blt.lv h.nA h.ne).symm.trans hlv
  subst el
  refine⟨_,rfl,co,_,dx,_,_,rfl,h.obj,T.jb.cl,T.xQ,rfl,.inl ⟨rfl,_,aO.of h.lst⟩,_,rfl,_,rfl,(by show 2<=sizeLine;decide),fun t ht=>?_⟩
  have npt:pl≠t:=fun z=>by rw[<-z,h.lst]at ht;cases ht
  have nco:co≠pl:=bI h.obj h.lst (fun z=>nomatch z)
  have nct:co≠t:=fun z=>by rw[<-z,h.obj]at ht;cases ht
  refine⟨pl,vs,.ref t,rfl,rfl,by rw[ao npt];exact h.lst,by have:=h.blt.len;have:=h.all.len;omega,?_⟩
  have eqF:∀b,FL b->b≠pl->upd (upd H t (.tup [.str (strOf [c]),rv])) pl (.lst (vs++[.ref t])) b=H b:=fun b hb hn=>by
   rw[ao hn,ao (fun z=>aL b hb (by rw[z];exact ht))]
  have eqR:∀b,FR b->upd (upd H t (.tup [.str (strOf [c]),rv])) pl (.lst (vs++[.ref t])) b=H b:=fun b hb=>by
   rw[ao (fun z=>dj pl h.fp (by rw[<-z];exact hb)),ao (fun z=>aR b hb (by rw[z];exact ht))]
  refine⟨_,rfl,q _ _ pl ⟨fun b o e hb=>?_,(sL _ h.fp).1,.inl ⟨vs,h.lst⟩,qG.trans qG⟩ ⟨fun b=>FL b\/FR b\/b=t,.inr ⟨co,dx,pl,fv,f,fun b=>F' b\/FR b\/b=t,vs++[.ref t],prs++[(c,xr)],l',rfl,?_⟩,?_⟩⟩
  ·rw[ao hb,ao (fun z=>by rw[z,ht]at e;cases e)];exact e
  ·refine⟨.inl h.fc,.inl h.fp,fun z=>z.elim h.np fun z=>z.elim (dj _ h.fp) npt,fun b hb=>hb.elim (fun z=>.inl (h.sub b z)) .inr,?_,az,?_,h.ro,?_,by simp,h.jQ,?_,h.blt.snoc⟩
   ·rw[ao nco,ao nct];exact h.obj
   ·exact(dk a n).mono ((dk a n).frame h.fst fun b hb=>eqF b (h.sub b hb) fun z=>h.np (by rw[<-z];exact hb)) fun b hb=>.inl hb
   ·refine dB.app (h.all.imp fun _ _ z=>?_) (.cons ⟨t,rv,rfl,.inr (.inr rfl),?_,?_⟩ .nil)
    ·exact(ux (dk a n)).mono ((ux (dk a n)).frame z fun b hb=>eqF b (h.sub b hb) fun z=>h.np (by rw[<-z];exact hb)) fun b hb=>.inl hb
    ·rw[ao (fun z=>npt z.symm)];exact az
    ·exact(dk a n).mono ((dk a n).frame hR eqR) fun b hb=>.inr (.inl hb)
   ·intro pr hp
    rcases List.mem_append.mp hp with z|z
    ·exact h.nA pr z
    ·rw[List.mem_singleton.mp z];exact hc
  ·intro b hb
   rcases hb with hb|hb|rfl
   ·exact sL.put.put b hb
   ·exact sR.put.put b hb
   ·refine⟨gr.none ht,?_⟩
    rw[ao (fun z=>npt z.symm),az];exact⟨_,rfl⟩
 ·refine⟨_,rfl,_,rfl,lv,l,n,FL,xl,rfl,l0,hL,_,rfl,?_⟩
  rw[decide_eq_false hlv]
  refine df ⟨_,rfl,_,rfl,fun x dx nx nd ne=>?_⟩
  refine⟨x,dx,l,lv,rfl,az,fun H1 pl hp ex ep kp=>⟨rfl,?_⟩⟩
  have sm:aN H H1:=aN.made nx nd kp
  have hp0:H pl=none:=by
   cases e:H pl with
   |none=>rfl
   |some o=>
    have n1:pl≠x:=fun z=>by rw[z,nx]at e;cases e
    have n2:pl≠dx:=fun z=>by rw[z,nd]at e;cases e
    rw[ao n1,ao n2,e]at hp;cases hp
  refine⟨_,rfl,x,_,dx,_,_,rfl,ex,T.jb.cl,T.xQ,rfl,.inl ⟨rfl,_,aO.of ep⟩,_,rfl,_,rfl,(by show 2<=sizeLine;decide),fun t ht=>?_⟩
  have npt:pl≠t:=fun z=>by rw[<-z,ep]at ht;cases ht
  have nxp:x≠pl:=bI ex ep (fun z=>nomatch z)
  have nxt:x≠t:=fun z=>by rw[<-z,ex]at ht;cases ht
  refine⟨pl,[],.ref t,rfl,rfl,by rw[ao npt];exact ep,by show 0<sizeLine;decide,?_⟩
  have ht0:H t=none:=by
   cases e:H t with
   |none=>rfl
   |some o=>rw[sm _ _ e]at ht;cases ht
  have keep:∀b o,H b=some o->upd (upd H1 t (.tup [.str (strOf [c]),rv])) pl (.lst ([]++[.ref t])) b=some o:=fun b o e=>by
   rw[ao (fun z=>by rw[z,hp0]at e;cases e),ao (fun z=>by rw[z,ht0]at e;cases e)];exact sm b o e
  have sm':aN H (upd (upd H1 t (.tup [.str (strOf [c]),rv])) pl (.lst ([]++[.ref t]))):=keep
  refine⟨_,rfl,q _ _ pl ⟨fun b o e _=>keep b o e,gr.none hp0,.inr hp0,Ay sm'⟩ ⟨fun b=>b=x\/b=pl\/FL b\/FR b\/b=t,.inr ⟨x,dx,pl,lv,xl,fun b=>FL b\/FR b\/b=t,[]++[.ref t],[]++[(c,xr)],l,rfl,?_⟩,?_⟩⟩
  ·refine⟨.inl rfl,.inr (.inl rfl),fun z=>?_,fun b hb=>.inr (.inr hb),?_,az,?_,hlv,?_,by simp,jQ,?_,iC.nil.snoc⟩
   ·rcases z with z|z|z
    ·exact aL _ z hp0
    ·exact aR _ z hp0
    ·exact npt z
   ·rw[ao nxp,ao nxt];exact ex
   ·exact(dk a n).mono ((dk a n).frame hL (sL.vG sm')) fun b hb=>.inl hb
   ·refine .cons ⟨t,rv,rfl,.inr (.inr rfl),?_,?_⟩ .nil
    ·rw[ao (fun z=>npt z.symm)];exact az
    ·exact(dk a n).mono ((dk a n).frame hR (sR.vG sm')) fun b hb=>.inr (.inl hb)
   ·intro pr hp
    rw[List.mem_singleton.mp hp];exact hc
  ·intro b hb
   rcases hb with rfl|rfl|hb|hb|rfl
   ·refine⟨gr.none nx,?_⟩
    rw[ao nxp,ao nxt];exact⟨_,ex⟩
   ·exact⟨gr.none hp0,_,az⟩
   ·exact sL.same sm' b hb
   ·exact sR.same sm' b hb
   ·refine⟨gr.none ht0,?_⟩
    rw[ao (fun z=>npt z.symm),az];exact⟨_,rfl⟩
end Wale
end
section
set_option Elab.async false
set_option linter.all false
set_option maxRecDepth 100000
set_option maxHeartbeats 2000000
namespace Wale
open PySem PySem.Spec PyProof.Rows L2
open Wm
open LsWale (ascii Fault eatSign eatWord eatOpen anyName newName oldName markName holdName wanted isName)
variable {P:Program}{w:World}{K:PySem.W.Frag}{mg:Str->Option Value}{base:Heap}{a:Ad}
theorem jY(n:Nat):Str.ofString (toString (n:Int))=strOf (LsWale.decimal n):=by
 have h:=PySem.W.KIN.signs_num n
 have e:(LsWale.decimal n).map UInt8.toNat=(Nat.toDigits 10 n).map Char.toNat:=by
  unfold LsWale.decimal
  rw[List.map_map]
  refine List.map_congr_left fun c hc=>?_
  have hd:=Nat.isDigit_of_mem_toDigits (by decide) (by decide) hc
  show(UInt8.ofNat c.toNat).toNat=c.toNat
  rw[UInt8.toNat_ofNat']
  have:c.toNat<=57:=by
   unfold Char.isDigit at hd
   rw[Bool.and_eq_true,decide_eq_true_eq,decide_eq_true_eq]at hd
   exact hd.2
  omega
 unfold strOf
 rw[e,<-h]
theorem La{b:Bytes}{p n:Nat}(h:aj b p=.num n):n<=1048576:=by
 unfold aj at h
 generalize b.drop (aM b p)=z at h
 unfold LsWale.oneToken at h
 split at h
 ·cases h
 ·split at h
  ·cases h
  ·split at h
   ·split at h
    ·rename_i hn
     cases h
     unfold LsWale.isNumber at hn
     rw[Bool.and_eq_true,decide_eq_true_eq]at hn
     exact hn.2
    ·cases h
   ·split at h<;>cases h
theorem uu{n:Nat}(h:n<=1048576):(n:Int).natAbs.log2<1920:=by
 rw[Int.natAbs_natCast]
 have h2:n.log2<=n:=Nat.log2_le_self n
 by_cases z:n=0
 ·rw[z];decide
 ·have:n.log2<21:=(Nat.log2_lt z).mpr (by omega)
  omega
theorem Cn{H0 H:Hp}{n:Nat}{x:ba}(h:gX x=0):Md (cg a n) H0 H (.str (strOf (LsWale.sumText x))) x:=⟨fun _=>False,Ap a n ⟨h,rfl⟩,fun _ z=>z.elim⟩
theorem BQ{b:Bytes}{R:RA}{p d:Nat}{L:NL}{H:Hp}{Q:VK}{E:XK}{kd:Str}(hR:aq a K b R p d L H)(hb:gz K a b p E)(k1:cp b p->eQ (aj b p)=kd->∀(H':Hp)(x:Addr),aq a K b R (ay b p) d L H'->aC R H H'->cS a b p H' x->Q (.ref x) H')
  (k2:cp b p->eQ (aj b p)≠kd->Told K a E 3 (aM b p:Nat)):fR K a eQ [.ref R.r,.str kd] H Q E:=by
 unfold fR
 exact⟨b,R,p,d,L,kd,rfl,hR,hb,k1,k2⟩
theorem aq.ins{b:Bytes}{R:RA}{p d:Nat}{L:NL}{H:Hp}(h:aq a K b R p d L H):H R.r=some (.ins a.a9 h.obj.choose (jI R.t h.obj.choose_spec.choose p d R.N.n)):=h.obj.choose_spec.choose_spec.1
@[irreducible] def iK{α:Type}(K:PySem.W.Frag)(a:Ad)(m:Nat)(ρ:Rep α)(S:Nat->ah->Except Fault (α×ah)):Sp:=fun vs H Q E=>∃(b:Bytes)(R:RA)(p d:Nat)(e:aA),vs=[.ref R.r]/\aq a K b R p d (lst e) H/\d<=8/\8<d+m/\Tl K a E (S d (aa b p e))/\
 ∀x p' e',S d (aa b p e)=.ok (x,aa b p' e')->∀(H':Hp)(v:V),aq a K b R p' d (lst e') H'->aC R H H'->Md ρ H H' v x->Q v H'
theorem eV{α:Type}{m:Nat}{ρ:Rep α}{S:Nat->ah->Except Fault (α×ah)}(vs:List V)(H:Hp)(Q:VK)(E:XK)(h:iK K a m ρ S vs H Q E):vs.length=1:=by
 unfold iK at h
 obtain⟨_,_,_,_,_,rfl,_⟩:=h;rfl
theorem x5{α:Type}{ρ:Rep α}{S:Nat->ah->Except Fault (α×ah)}{k:Nat}{f:Addr}{fd:FuncData}{CX:dz}:aB P w K mg base CX k f fd ["reader"] (iK K a 0 ρ S):=
 ⟨eV,fun A outer s H args us vs Q E hr he hb hv hs=>by unfold iK at hs;obtain⟨_,_,_,_,_,_,_,h1,h2,_⟩:=hs;omega⟩
section
variable {α β:Type}{b:Bytes}{R:RA}{p d m:Nat}{L:NL}{e:aA}{H:Hp}{Q:VK}{E:XK}{r:Except Fault (α×ah)}
theorem bZ{ρ:Rep β}{S:Nat->ah->Except Fault (β×ah)}{f:β×ah->Except Fault (α×ah)}(hR:aq a K b R p d (lst e) H)(hd:d<=8)(hm:8<d+m)(hT:Tl K a E r)(hr:r=S d (aa b p e)>>=f)(hB:∀x s k pl,HB s k pl->bF (f (x,s)) k pl)
  (kk:∀x p' e',S d (aa b p e)=.ok (x,aa b p' e')->r=f (x,aa b p' e')->∀(H':Hp)(v:V),aq a K b R p' d (lst e') H'->aC R H H'->Md ρ H H' v x->Q v H'):iK K a m ρ S [.ref R.r] H Q E:=by
 unfold iK
 exact⟨b,R,p,d,e,rfl,hR,hd,hm,fun k pl h=>hT k pl (by rw[hr];exact h.bind fun x s hb=>hB x s k pl hb),fun x p' e' hS=>kk x p' e' hS (by rw[hr,hS];rfl)⟩
end
theorem eW{α:Type}{m:Nat}{ρ:Rep α}{S:Nat->ah->Except Fault (α×ah)}{vs:List V}{H:Hp}{Q:VK}{E:XK}(h:iK K a m ρ S vs H Q E):∃(b:Bytes)(R:RA)(p d:Nat)(e:aA),vs=[.ref R.r]/\aq a K b R p d (lst e) H/\d<=8/\8<d+m/\Tl K a E (S d (aa b p e))/\
 ∀x p' e',S d (aa b p e)=.ok (x,aa b p' e')->∀(H':Hp)(v:V),aq a K b R p' d (lst e') H'->aC R H H'->Md ρ H H' v x->Q v H':=by unfold iK at h;exact h
theorem si{b:Bytes}{p:Nat}:eQ (aj b p)=("number":Str)↔∃n,aj b p=.num n:=by
 cases aj b p with
 |word x=>
  refine⟨fun z=>?_,fun⟨_,z⟩=>by cases z⟩
  have z:dv x="number":=z
  unfold dv at z
  split at z<;>exact absurd z (by decide +kernel)
 |num n=>exact⟨fun _=>⟨n,rfl⟩,fun _=>rfl⟩
 |sign c=>exact⟨fun z=>absurd z (by show ¬(("fixed":Str)="number");decide +kernel),fun⟨_,z⟩=>by cases z⟩
 |bad k=>exact⟨fun z=>absurd z (by show ¬(("":Str)="number");decide +kernel),fun⟨_,z⟩=>by cases z⟩
 |done=>exact⟨fun z=>absurd z (by show ¬(("end":Str)="number");decide +kernel),fun⟨_,z⟩=>by cases z⟩
theorem El{b:Bytes}{p d n:Nat}{e:aA}(h:aj b p=.num n):a6 .fact d (aa b p e)=.ok (.num n,aa b (ay b p) e):=by
 rw[Hu (by rw[dJ,h]),cE (by rw[h];rfl)]
theorem LA{b:Bytes}{p d:Nat}{e:aA}{x:Bytes}(h:nameAt b p=some x):a6 .fact d (aa b p e)=oldName e.lets (aa b p e)>>=fun x=>.ok (.name (aM b p) x.1,x.2):=
 AD (by rw[dJ,(tq h).1])
theorem HZ{b:Bytes}{p d:Nat}{e:aA}(nb:cp b p)(h1:∀n,aj b p≠ .num n)(h2:nameAt b p=none):
  a6 .fact d (aa b p e)=eatOpen '(' d (aa b p e)>>=fun t=>a6 .sum (d+1) t>>=fun x=>eatSign ')' x.2>>=fun u=>.ok (x.1,u):=by
 by_cases hw:∃x,aj b p=.word x
 ·obtain⟨x,hx⟩:=hw
  rw[AD (by rw[dJ,hx])]
  unfold oldName eatOpen
  rw[any_none h2,if_pos (by rw[fY,hx];rfl),eY nb,eY nb]
  rfl
 ·exact DQ (fun p' n r z=>by rw[dJ]at z;exact h1 n (congrArg LsWale.Token.tok (List.cons.inj z).1)) (fun p' x r z=>by rw[dJ]at z;exact hw ⟨x,congrArg LsWale.Token.tok (List.cons.inj z).1⟩)
abbrev cP{α:Type}(P:Program)(w:World)(K:PySem.W.Frag)(mg:Str->Option Value)(base:Heap)(a:Ad)(k:Nat)(f:Addr)(fd:FuncData)(m:Nat)(ρ:Rep α)(S:Nat->ah->Except Fault (α×ah)):Prop:=aB P w K mg base (a8 P w) k f fd ["reader"] (iK K a m ρ S)
theorem wj:aI ["reader","token","node"] ["reader"] (aD w7):=⟨rfl,rfl,rfl,by decide +kernel,rfl,by decide +kernel,by decide +kernel⟩
theorem xy{α:Type}{x:α}{s:ah}{c:Char}{k pl:Nat}(h:HB s k pl):bF (eatSign c s>>=fun u=>(.ok (x,u):Except Fault (α×ah))) k pl:=by rw[tD h];exact .inl rfl
theorem Gg(T:Tx P w K mg a){m n:Nat}(F:cP P w K mg base a (10+3*m) a.kD a.jS m (cg a n) (a6 .sum)):cP P w K mg base a (10+3*m+1) a.mW a.me (m+1) (cg a n) (a6 .fact):=by
 refine aG.bq (k:=10+3*m) T.ur.fn wj eV (fun cdv A outer s H vs Q E hr h=>?_)
 obtain⟨b,R,p,d,e,rfl,hR,hd,hm,hT,kk⟩:=eW h
 have C:=T.bC.cl
 refine⟨_,ai (aW (i:=1) wj.nd rfl (Or.inl rfl) (cq (pv 0) C T.bU.mt (gH T) (hr.mono (by omega)) T.bU.bd .nil au))
  (ai (a7 (a4 b9 (aH (pv 1) rfl) (bB T.qW) (aX _)) (ak (aK (Lb Iy rfl T.Jf rfl (ae (aH (cq (pv 0) C T.cx.mt (iH T) (hr.mono (by omega)) T.cx.bd .nil au) rfl) ag)))) bj)
  (ai (a7 (a4 b9 (aH (pv 1) rfl) (bB T.jj) (aX _)) (ak (aK ((aV (pv 0) C T.iF.mt (sv T) (hr.mono (by omega)) T.iF.bd .nil au (ae (bB T.sj) ag))))) bj)
  (ai (a0 (aV (pv 0) C T.ke.mt (xF T) (hr.mono (by omega)) T.ke.bd .nil au (ae aQ ag))) (ai (aW (i:=2) wj.nd rfl (Or.inl rfl) (aS T.iJ F (hr.mono (by omega)) au (ae (pv 0) ag))) (ai (a0 (aV (pv 0) C T.kO.mt (xn T) (hr.mono (by omega)) T.kO.bd .nil au (ae aQ ag))) (ak (aK (pv 2)))))))),?_⟩
 refine⟨_,rfl,R.r,_,_,rfl,hR.ins,rfl,?_⟩
 refine mS (e:=e) hR hT (fun k pl hb=>.inl (HQ hb d)) fun nb H1 x hR1 kp1 tk1=>?_
 obtain⟨dt,ft,et,lt1,lt2,lt3,lt4,lt5⟩:=tk1
 refine⟨_,rfl,x,_,dt,ft,_,rfl,et,T.bo.cl,T.j0,lt1,rfl,_,rfl,?_⟩
 rw[cA]
 refine aT (fun c=>?_) (fun c=>?_)
 ·obtain⟨n,hn⟩:=si.mp (of_decide_eq_true c)
  refine⟨_,rfl,R.r,_,_,rfl,hR1.ins,rfl,?_⟩
  refine iA hR1 nb fun H2 y hR2 kp2 tk2=>?_
  obtain⟨dt,ft,et,lt1,lt2,lt3,lt4,lt5⟩:=tk2
  rw[hn]at lt3
  refine⟨y,_,dt,ft,_,rfl,et,T.bo.cl,T.pw,lt3,_,rfl,uu (La hn),?_⟩
  refine kk _ _ _ (El hn) H2 _ hR2 (kp1.trans kp2) ?_
  rw[show(Str.ofString (toString ((u6 (.num n):Nat):Int)):Str)=strOf (LsWale.decimal n)from jY n]
  exact Cn (x:=.num n) rfl
 have h1:∀n,aj b p≠ .num n:=fun n z=>c (decide_eq_true (si.mpr ⟨n,z⟩))
 refine⟨_,rfl,x,_,dt,ft,_,rfl,et,T.bo.cl,T.j0,lt1,rfl,_,rfl,?_⟩
 rw[cA]
 refine aT (fun c2=>?_) (fun c2=>?_)
 ·obtain⟨z,hz⟩:=fT.mp (of_decide_eq_true c2)
  refine⟨_,rfl,R.r,_,_,rfl,hR1.ins,rfl,?_⟩
  exact rf (k:=.eC) hR1 rfl hT (LA hz) rfl fun y hy H2 hR2 kp2=>kk _ _ _ hy H2 _ hR2 (kp1.trans kp2) (Cn (x:=.name (aM b p) y) rfl)
 have h2:nameAt b p=none:=by
  cases hx:nameAt b p with
  |none=>rfl
  |some x=>exact absurd (decide_eq_true (fT.mpr ⟨x,hx⟩)) c2
 refine⟨_,rfl,R.r,_,_,rfl,hR1.ins,rfl,?_⟩
 refine vY hR1 hd hT (HZ nb h1 h2) fun e1 l8 hs H2 hR2 kp2=>?_
 refine⟨_,rfl,?_⟩
 refine bZ (m:=m) hR2 (by omega) (by omega) hT e1 (fun x s k pl hb=>xy hb) fun y p' e' hS e2 H3 v hR3 kp3 md3=>?_
 refine⟨_,rfl,R.r,_,_,rfl,hR3.ins,rfl,?_⟩
 refine v8 hR3 hT e2 fun e3 H4 hR4 kp4=>⟨_,rfl,?_⟩
 exact kk _ _ _ e3 H4 v hR4 (((kp1.trans kp2).trans kp3).trans kp4) ((md3.keep (dk a n) hR2.cells kp4).old ((kp1.trans kp2).grow hR2.cells))
end Wale
end
section
set_option Elab.async false
set_option linter.all false
set_option maxRecDepth 100000
set_option maxHeartbeats 2000000
namespace Wale
open PySem PySem.Spec PyProof.Rows L2
open Wm
open LsWale (Level sumAt eatSign eatOpen oldName wanted Fault)
theorem f9{α β:Type}{r:Except Fault α}{f:α->Except Fault β}{y:β}(q:(r>>=f)=.ok y):∃z,r=.ok z/\f z=.ok y:=by
 cases r with
 |error f=>cases q
 |ok z=>exact⟨z,rfl,q⟩
def gP:Level->Nat
 | .sumRest x=>cX x
 | .prodRest x=>cX x
 |_=>0
def one:Level->Nat
 | .sumRest _=>0
 | .prodRest _=>0
 |_=>1
theorem gC:∀(f:Nat)(lv:Level)(d:Nat)(s:ah)(x:ba)(t:ah),sumAt f lv d s=.ok (x,t)->cX x+t.ts.length+one lv<=s.ts.length+gP lv
 |0,lv,d,s,x,t,h=>by rw[sumAt]at h;exact absurd h (by unfold wanted;split<;>exact fun z=>nomatch z)
 |f+1,.sum,d,s,x,t,h=>by
  rw[sumAt]at h
  obtain⟨⟨y,u⟩,h1,h2⟩:=f9 h
  have i1:=gC f .prod d s y u h1
  have i2:=gC f (.sumRest y) d u x t h2
  simp only[gP,one]at *
  omega
 |f+1,.prod,d,s,x,t,h=>by
  rw[sumAt]at h
  obtain⟨⟨y,u⟩,h1,h2⟩:=f9 h
  have i1:=gC f .fact d s y u h1
  have i2:=gC f (.prodRest y) d u x t h2
  simp only[gP,one]at *
  omega
 |f+1,.sumRest z,d,s,x,t,h=>by
  rw[sumAt]at h
  split at h
  ·rename_i c
   obtain⟨⟨y,u⟩,h1,h2⟩:=f9 h
   have i0:=aU (iR c)
   have i1:=gC f .prod d s.next y u h1
   have i2:=gC f (.sumRest _) d u x t h2
   simp only[gP,one,cX]at *
   omega
  ·cases h
   simp only[gP,one]
   omega
 |f+1,.prodRest z,d,s,x,t,h=>by
  rw[sumAt]at h
  split at h
  ·rename_i c
   obtain⟨⟨y,u⟩,h1,h2⟩:=f9 h
   have i0:=aU (iR c)
   have i1:=gC f .fact d s.next y u h1
   have i2:=gC f (.prodRest _) d u x t h2
   simp only[gP,one,cX]at *
   omega
  ·cases h
   simp only[gP,one]
   omega
 |f+1,.fact,d,s,x,t,h=>by
  rw[sumAt]at h
  split at h
  ·rename_i q
   cases h
   have:=aU (s:=s) (by rw[q];simp)
   simp only[gP,one,cX]
   omega
  ·obtain⟨y,h1,h2⟩:=f9 h
   cases h2
   have:=lg y.1 y.2 h1
   simp only[gP,one,cX]
   omega
  ·obtain⟨u,h1,h2⟩:=f9 h
   obtain⟨⟨y,v⟩,h3,h4⟩:=f9 h2
   obtain⟨z,h5,h6⟩:=f9 h4
   cases h6
   have i0:=gE _ h1
   have i1:=gC f .sum (d+1) u y v h3
   have i2:=dg _ h5
   simp only[gP,one]at *
   omega
theorem yT{d:Nat}{s t:ah}{x:ba}(h:a6 .fact d s=.ok (x,t)):cX x+t.ts.length<s.ts.length:=gC _ .fact d s x t h
theorem zy{d:Nat}{s t:ah}{x:ba}(h:a6 .prod d s=.ok (x,t)):cX x+t.ts.length<s.ts.length:=gC _ .prod d s x t h
theorem toks_le(b:Bytes)(p:Nat):(toks b p).length<=b.length+1:=by
 have:∀(f p:Nat)(b:Bytes),(LsWale.tokensFrom f p b).length<=f:=fun f=>by
  induction f with
  |zero=>intro p b;exact Nat.zero_le _
  |succ f ih=>
   intro p b
   rw[LsWale.tokensFrom]
   rw[List.length_cons]
   have:=ih
   split
   ·exact Nat.succ_le_succ (Nat.zero_le _)
   ·exact Nat.succ_le_succ (Nat.zero_le _)
   ·exact Nat.succ_le_succ (ih _ _)
 have h:=this ((b.drop p).length+1) p (b.drop p)
 unfold toks
 rw[List.length_drop]at h ⊢
 omega
theorem oN{b:Bytes}(h:b.length<=20000)(p:Nat):(toks b p).length<sizeLine:=by
 have:=toks_le b p
 have:sizeLine=16777216:=by decide
 omega
end Wale
end
section
set_option Elab.async false
set_option linter.all false
set_option maxRecDepth 100000
set_option maxHeartbeats 2000000
namespace Wale
open PySem PySem.Spec PyProof.Rows L2
open Wm
open LsWale (ascii Fault eatSign eatWord eatOpen anyName newName oldName markName holdName wanted isName)
variable {P:Program}{w:World}{K:PySem.W.Frag}{mg:Str->Option Value}{base:Heap}{a:Ad}
theorem AN{b:Bytes}{p:Nat}{e:aA}(cs:List Char){l:List Str}(hl:l=cs.map fun c=>strOf [UInt8.ofNat c.toNat])(hc:∀c∈cs,LsWale.isLetter (UInt8.ofNat c.toNat)=false):
  dH (.str (bc (aj b p))) (l.map V.str)=cs.any fun c=>(aa b p e).isSign c:=by
 subst hl
 have h1:(cs.map fun c=>strOf [UInt8.ofNat c.toNat])=(cs.map fun c=>[UInt8.ofNat c.toNat]).map strOf:=by rw[List.map_map];rfl
 rw[ny,h1,m8]
 induction cs with
 |nil=>rfl
 |cons c r ih=>
  rw[List.map_cons,List.contains_cons,List.any_cons,ih (fun c h=>hc c (List.mem_cons_of_mem _ h)) (by rw[List.map_map];rfl)]
  congr 1
  rw[Bool.eq_iff_iff,beq_iff_eq]
  exact gw b p e (hc c (List.mem_cons_self ..))
theorem in_words{b:Bytes}{p:Nat}{e:aA}(ws:List String){l:List Str}(hl:l=ws.map fun c=>strOf (ascii c))(hc:∀c∈ws,iN c=true):
  dH (.str (bc (aj b p))) (l.map V.str)=ws.any fun c=>(aa b p e).isWord c:=by
 subst hl
 have h1:(ws.map fun c=>strOf (ascii c))=(ws.map fun c=>ascii c).map strOf:=by rw[List.map_map];rfl
 rw[ny,h1,m8]
 induction ws with
 |nil=>rfl
 |cons c r ih=>
  rw[List.map_cons,List.contains_cons,List.any_cons,ih (fun c h=>hc c (List.mem_cons_of_mem _ h)) (by rw[List.map_map];rfl)]
  congr 1
  rw[Bool.eq_iff_iff,beq_iff_eq]
  exact jB b p e (hc c (List.mem_cons_self ..))
section
variable {α β:Type}{b:Bytes}{R:RA}{p d m:Nat}{L:NL}{e:aA}{H:Hp}{E:XK}{r:Except Fault (α×ah)}{σ:L2.St}{Q:Bool->Hp->Prop}
theorem uJ{z1 z2:Str}(T:Tx P w K mg a)(h0:σ[0]? =some (some (.ref R.r)))(hR:aq a K b R p d L H)(hT:Tl K a E r)(hb:∀k pl,HB (aa b p e) k pl->bF r k pl)
  (k:cp b p->∀H':Hp,aq a K b R p d L H'->aC R H H'->Q (dH (.str (bc (aj b p))) [.str z1,.str z2]) H'):
  gS (dP (Cc K false) (mw K (sE a.a9 "peek" (ma K a) [] E (bA 0) d9) "text") (AV (bO (tC (.str z1)) (bO (tC (.str z2)) d9)))) σ H Q:=by
 refine⟨_,h0,R.r,_,_,rfl,hR.ins,rfl,mS hR hT hb fun nb H1 x hR1 kp1 tk1=>?_⟩
 obtain⟨dt,ft,et,lt1,lt2,lt3,lt4,lt5⟩:=tk1
 refine⟨x,_,dt,ft,_,rfl,et,T.bo.cl,T.bV,lt2,(by show 2<=sizeLine;decide),fun q hq=>?_⟩
 refine⟨q,_,rfl,.inr (.inl (.inl az)),rfl,rfl,_,rfl,?_⟩
 rw[if_neg Bool.false_ne_true]
 exact k nb _ (hR1.same (aP hq)) (kp1.trans (bg (aP hq)))
theorem uD{l:List Str}{dd:Addr}(T:Tx P w K mg a)(h0:σ[0]? =some (some (.ref R.r)))(hR:aq a K b R p d L H)(hT:Tl K a E r)(hb:∀k pl,HB (aa b p e) k pl->bF r k pl)
  (k:cp b p->∀H':Hp,aq a K b R p d L H'->aC R H H'->Q (dH (.str (bc (aj b p))) (l.map V.str)) H'):
  gS (dP (mH l dd) (mw K (sE a.a9 "peek" (ma K a) [] E (bA 0) d9) "text") (tC (.ref dd))) σ H Q:=by
 refine⟨_,h0,R.r,_,_,rfl,hR.ins,rfl,mS hR hT hb fun nb H1 x hR1 kp1 tk1=>?_⟩
 obtain⟨dt,ft,et,lt1,lt2,lt3,lt4,lt5⟩:=tk1
 exact⟨x,_,dt,ft,_,rfl,et,T.bo.cl,T.bV,lt2,rfl,_,rfl,_,rfl,k nb H1 hR1 kp1⟩
end
theorem nD{α:Type}{r:Except Fault (α×ah)}{x:α}{s:ah}{k pl:Nat}(h:r=.ok (x,s))(hb:HB s k pl):bF r k pl:=.inr ⟨x,s,h,hb⟩
theorem qU:aI ["reader","node","sign"] ["reader"] (aD uB):=⟨rfl,rfl,rfl,by decide +kernel,rfl,by decide +kernel,by decide +kernel⟩
theorem lh{α:Type}{b:Bytes}{p p':Nat}{e e':aA}{x:α}{g:Except Fault (α×ah)}(h:Lt (aa b p e).ts.length g)(hS:g=.ok (x,aa b p' e')):(toks b p').length<(toks b p).length:=h _ _ hS
theorem lC{b:Bytes}{p:Nat}(h:cv (aj b p)=true):(toks b (ay b p)).length<(toks b p).length:=by
 have h1:=aU (s:=aa b p .none_) (by rw[dJ];exact List.cons_ne_nil _ _)
 rw[cE h]at h1
 exact h1
theorem Ia{b:Bytes}{p:Nat}{e:aA}:dH (.str (bc (aj b p))) [.str "*",.str "/"]=((aa b p e).isSign '*'||(aa b p e).isSign '/'):=by
 have h:=AN (b:=b) (p:=p) (e:=e) ['*','/'] (l:=["*","/"]) (by decide +kernel) (by decide +kernel)
 rw[show(['*','/'].any fun c=>(aa b p e).isSign c)=((aa b p e).isSign '*'||((aa b p e).isSign '/'||false))from rfl,Bool.or_false]at h
 exact h
theorem Iv{b:Bytes}{p:Nat}{e:aA}:dH (.str (bc (aj b p))) [.str "+",.str "-"]=((aa b p e).isSign '+'||(aa b p e).isSign '-'):=by
 have h:=AN (b:=b) (p:=p) (e:=e) ['+','-'] (l:=["+","-"]) (by decide +kernel) (by decide +kernel)
 rw[show(['+','-'].any fun c=>(aa b p e).isSign c)=((aa b p e).isSign '+'||((aa b p e).isSign '-'||false))from rfl,Bool.or_false]at h
 exact h
theorem sM{b:Bytes}{p:Nat}{e:aA}{c c':Char}(h:((aa b p e).isSign c||(aa b p e).isSign c')=true):cv (aj b p)=true:=by
 rcases(Bool.or_eq_true _ _).mp h with h|h
 ·exact gd h
 ·exact gd h
theorem E8{b:Bytes}{p:Nat}{e:aA}(h:((aa b p e).isSign '*'||(aa b p e).isSign '/')=true):bc (aj b p)=strOf [if(aa b p e).isSign '*'=true then 42 else 47]:=by
 by_cases c:(aa b p e).isSign '*'=true
 ·rw[if_pos c]
  rw[fY,decide_eq_true_eq]at c
  rw[c];rfl
 ·rw[if_neg c]
  have h:(aa b p e).isSign '/'=true:=((Bool.or_eq_true _ _).mp h).resolve_left c
  rw[fY,decide_eq_true_eq]at h
  rw[h];rfl
theorem Im{b:Bytes}{p:Nat}{e:aA}(h:((aa b p e).isSign '+'||(aa b p e).isSign '-')=true):bc (aj b p)=strOf [if(aa b p e).isSign '+'=true then 43 else 45]:=by
 by_cases c:(aa b p e).isSign '+'=true
 ·rw[if_pos c]
  rw[fY,decide_eq_true_eq]at c
  rw[c];rfl
 ·rw[if_neg c]
  have h:(aa b p e).isSign '-'=true:=((Bool.or_eq_true _ _).mp h).resolve_left c
  rw[fY,decide_eq_true_eq]at h
  rw[h];rfl
theorem Ma{c:Bool}:gJ (if c=true then 42 else 47)=2:=by cases c<;>decide
theorem Kt{c:Bool}:gJ (if c=true then 43 else 45)=1:=by cases c<;>decide
def Node(a:Ad)(n l:Nat)(H0 H:Hp)(v:V)(x:ba):Prop:=Md (cg a n) H0 H v x\/(gX x=l/\Md (cg a (n+1)) H0 H v x)
theorem Node.up{n l:Nat}{H0 H:Hp}{v:V}{x:ba}(h:Node a n l H0 H v x):Md (cg a (n+1)) H0 H v x:=h.elim (fun m=>m.map fun F q=>nQ a n q) fun m=>m.2
theorem Node.keep{b:Bytes}{R:RA}{n l:Nat}{H0 H H':Hp}{v:V}{x:ba}(h:Node a n l H0 H v x)(c:ly R H0)(k:aC R H H'):Node a n l H0 H' v x:=
 h.elim (fun m=>.inl (m.keep (dk a n) c k)) fun m=>.inr ⟨m.1,m.2.keep (dk a (n+1)) c k⟩
theorem CO{n l:Nat}{c:UInt8}{lv rv:V}{xl xr:ba}{H0 H1 H:Hp}{p:Nat}{Q:VK}{b:Bytes}{R:RA}{p0 d0:Nat}{L0:NL}(hc:gJ c=l)(hL:Node a n l H0 H1 lv xl)(hR0:aq a K b R p0 d0 L0 H0)(g1:b8 H0 H1)(k:aC R H1 H)(gk:b8 H1 H)(hR:Md (cg a n) H1 H rv xr)(hz:cX xl<sizeLine)
  (kk:∀(H':Hp)(v:V)(q:Addr),da H0 H H' q->Node a n l H0 H' v (.op c p xl xr)->Q v H'):Cu a n [.int (l:Int),lv,.str (strOf [c]),rv] H Q E0:=by
 obtain⟨FR,q,sR⟩:=hR
 have kk':∀(H':Hp)(v:V)(q:Addr),da H0 H H' q->Md (cg a (n+1)) H0 H' v (.op c p xl xr)->Q v H':=fun H' v q lc md=>kk H' v q lc (.inr ⟨hc,md⟩)
 rcases hL with ⟨FL,z,sL⟩|⟨hl,FL,z,sL⟩
 ·have dj:∀b,FL b->¬FR b:=fun b h1 h2=>by obtain⟨_,o,e⟩:=sL b h1;rw[(sR b h2).1]at e;cases e
  have z':=(dk a n).frame z (sL.eq hR0.cells k)
  by_cases hl:gX xl=l
  ·exact⟨l,c,lv,rv,xl,xr,H0,FL,FR,p,rfl,hc,.inl ⟨hl,nQ a n z'⟩,q,sL.keep hR0.cells k,sR.old g1,dj,g1.trans gk,hz,kk'⟩
  ·exact⟨l,c,lv,rv,xl,xr,H0,FL,FR,p,rfl,hc,.inr ⟨hl,z'⟩,q,sL.keep hR0.cells k,sR.old g1,dj,g1.trans gk,hz,kk'⟩
 ·have dj:∀b,FL b->¬FR b:=fun b h1 h2=>by obtain⟨_,o,e⟩:=sL b h1;rw[(sR b h2).1]at e;cases e
  exact⟨l,c,lv,rv,xl,xr,H0,FL,FR,p,rfl,hc,.inl ⟨hl,(dk a (n+1)).frame z (sL.eq hR0.cells k)⟩,q,sL.keep hR0.cells k,sR.old g1,dj,g1.trans gk,hz,kk'⟩
theorem MA(T:Tx P w K mg a){k m n:Nat}(hk:9<=k)(F:cP P w K mg base a k a.mW a.me m (cg a n) (a6 .fact)):cP P w K mg base a (k+1) a.nv a.ll m (cg a (n+1)) (a6 .prod):=by
 refine aG.bq (k:=k) T.wD.fn qU eV (fun cdv A outer s H vs Q E hr h=>?_)
 obtain⟨b,R,p,d,e,rfl,hR,hd,hm,hT,kk⟩:=eW h
 have C:=T.bC.cl
 refine⟨_,ai (aW (i:=1) qU.nd rfl (Or.inl rfl) (aS T.ur F hr au (ae (pv 0) ag)))
  (ai (fD gW (a4 pJ (aH (cq (pv 0) C T.bU.mt (gH T) (hr.mono (by omega)) T.bU.bd .nil au) rfl) (jT (ae aQ (ae aQ ag))) (by rfl)) (ai (aW (i:=2) qU.nd rfl (Or.inl rfl) (aH (cq (pv 0) C T.cx.mt (iH T) (hr.mono (by omega)) T.cx.bd .nil au) rfl))
   (ak (aW (i:=1) qU.nd rfl (Or.inl rfl) (aS T.ud (Bf T n) (hr.mono (by omega)) a3 (ae (cy T.ER) (ae (pv 1) (ae (pv 2) (ae (aS T.ur F hr au (ae (pv 0) ag)) ag)))))))))
  (ak (aK (pv 1)))),?_⟩
 refine⟨_,rfl,?_⟩
 refine bZ hR hd hm hT (Lw d _) (fun x s k pl hb=>nD (vr hb x d) hb) fun x p1 e1 hS h1 H1 v hR1 kp1 md1=>?_
 let I:ba×Nat×aA->L2.St->Hp->Prop:=fun i σ H'=>∃v sg,σ=[some (.ref R.r),some v,sg]/\aq a K b R i.2.1 d (lst i.2.2) H'/\aC R H H'/\a6 .prod d (aa b p e)=a6 (.prodRest i.1) d (aa b i.2.1 i.2.2)/\cX i.1+(toks b i.2.1).length<(toks b p).length/\Node a n 2 H H' v i.1
 let μ:ba×Nat×aA->Nat:=fun i=>(toks b i.2.1).length
 refine fG I μ (x,p1,e1) ⟨v,none,rfl,hR1,kp1,h1,yT hS,.inl md1⟩ ?_
 rintro⟨x,p1,e1⟩ σ H2 ⟨v,sg,rfl,hR2,kp2,h2,ho,nd⟩
 dsimp only at hR2 h2 ho nd
 refine uJ (e:=e1) T rfl hR2 hT (fun k pl hb=>by rw[h2];exact nD (vr hb x d) hb) fun nb H3 hR3 kp3=>?_
 rw[Ia (e:=e1)]
 rw[Cj]at h2
 have nd3:=nd.keep (b:=b) hR.cells kp3
 refine aT (fun c=>?_) (fun c=>?_)
 ·rw[if_pos c,cE (sM c)]at h2
  refine fg (I:=I) (μ:=μ) (i:=(x,p1,e1)) ?_
  refine⟨_,rfl,R.r,_,_,rfl,hR3.ins,rfl,?_⟩
  refine iA hR3 nb fun H4 y hR4 kp4 tk4=>?_
  obtain⟨dt,ft,et,lt1,lt2,lt3,lt4,lt5⟩:=tk4
  rw[E8 c]at lt2
  refine⟨y,_,dt,ft,_,rfl,et,T.bo.cl,T.bV,lt2,_,rfl,_,rfl,_,rfl,?_⟩
  refine bZ hR4 hd hm hT h2 (fun x s k pl hb=>nD (vr hb _ d) hb) fun x' p2 e2 hS2 h3 H5 w5 hR5 kp5 md5=>?_
  have kp04:=(kp2.trans kp3).trans kp4
  have l1:=yT hS2
  have l2:=lC (sM c)
  have l1:cX x'+(toks b p2).length<(toks b (ay b p1)).length:=l1
  have sz:=oN hR.len p
  refine CO (p:=(aa b p1 e1).place) Ma (nd3.keep (b:=b) hR.cells kp4) hR (kp04.grow hR4.cells) kp5 (kp5.grow hR5.cells) md5 (by omega) fun H6 v6 q6 lc nd6=>?_
  refine⟨(_,p2,e2),?_,v6,_,rfl,hR5.bM hR lc,(kp04.trans kp5).bM lc,h3,?_,nd6⟩
  ·show(toks b p2).length<(toks b p1).length
   omega
  ·show cX x+cX x'+1+(toks b p2).length<(toks b p).length
   omega
 ·rw[if_neg c]at h2
  exact⟨_,rfl,kk _ _ _ h2 H3 v hR3 (kp2.trans kp3) nd3.up⟩
end Wale
end
section
set_option Elab.async false
set_option linter.all false
set_option maxRecDepth 100000
set_option maxHeartbeats 2000000
namespace Wale
open PySem PySem.Spec PyProof.Rows L2
open Wm
open LsWale (ascii Fault eatSign eatWord eatOpen anyName newName oldName markName holdName wanted isName)
variable {P:Program}{w:World}{K:PySem.W.Frag}{mg:Str->Option Value}{base:Heap}{a:Ad}
theorem sY:aI ["reader","node","sign"] ["reader"] (aD yg):=⟨rfl,rfl,rfl,by decide +kernel,rfl,by decide +kernel,by decide +kernel⟩
theorem K4(T:Tx P w K mg a){k m n:Nat}(hk:9<=k)(F:cP P w K mg base a k a.nv a.ll m (cg a n) (a6 .prod)):cP P w K mg base a (k+1) a.kD a.jS m (cg a (n+1)) (a6 .sum):=by
 refine aG.bq (k:=k) T.iJ.fn sY eV (fun cdv A outer s H vs Q E hr h=>?_)
 obtain⟨b,R,p,d,e,rfl,hR,hd,hm,hT,kk⟩:=eW h
 have C:=T.bC.cl
 refine⟨_,ai (aW (i:=1) sY.nd rfl (Or.inl rfl) (aS T.wD F hr au (ae (pv 0) ag)))
  (ai (fD gW (a4 pJ (aH (cq (pv 0) C T.bU.mt (gH T) (hr.mono (by omega)) T.bU.bd .nil au) rfl) (jT (ae aQ (ae aQ ag))) (by rfl)) (ai (aW (i:=2) sY.nd rfl (Or.inl rfl) (aH (cq (pv 0) C T.cx.mt (iH T) (hr.mono (by omega)) T.cx.bd .nil au) rfl))
   (ak (aW (i:=1) sY.nd rfl (Or.inl rfl) (aS T.ud (Bf T n) (hr.mono (by omega)) a3 (ae (cy T.HI) (ae (pv 1) (ae (pv 2) (ae (aS T.wD F hr au (ae (pv 0) ag)) ag)))))))))
  (ak (aK (pv 1)))),?_⟩
 refine⟨_,rfl,?_⟩
 refine bZ hR hd hm hT (Ge d _) (fun x s k pl hb=>nD (vm hb x d) hb) fun x p1 e1 hS h1 H1 v hR1 kp1 md1=>?_
 let I:ba×Nat×aA->L2.St->Hp->Prop:=fun i σ H'=>∃v sg,σ=[some (.ref R.r),some v,sg]/\aq a K b R i.2.1 d (lst i.2.2) H'/\aC R H H'/\a6 .sum d (aa b p e)=a6 (.sumRest i.1) d (aa b i.2.1 i.2.2)/\cX i.1+(toks b i.2.1).length<(toks b p).length/\Node a n 1 H H' v i.1
 let μ:ba×Nat×aA->Nat:=fun i=>(toks b i.2.1).length
 refine fG I μ (x,p1,e1) ⟨v,none,rfl,hR1,kp1,h1,zy hS,.inl md1⟩ ?_
 rintro⟨x,p1,e1⟩ σ H2 ⟨v,sg,rfl,hR2,kp2,h2,ho,nd⟩
 dsimp only at hR2 h2 ho nd
 refine uJ (e:=e1) T rfl hR2 hT (fun k pl hb=>by rw[h2];exact nD (vm hb x d) hb) fun nb H3 hR3 kp3=>?_
 rw[Iv (e:=e1)]
 rw[BM]at h2
 have nd3:=nd.keep (b:=b) hR.cells kp3
 refine aT (fun c=>?_) (fun c=>?_)
 ·rw[if_pos c,cE (sM c)]at h2
  refine fg (I:=I) (μ:=μ) (i:=(x,p1,e1)) ?_
  refine⟨_,rfl,R.r,_,_,rfl,hR3.ins,rfl,?_⟩
  refine iA hR3 nb fun H4 y hR4 kp4 tk4=>?_
  obtain⟨dt,ft,et,lt1,lt2,lt3,lt4,lt5⟩:=tk4
  rw[Im c]at lt2
  refine⟨y,_,dt,ft,_,rfl,et,T.bo.cl,T.bV,lt2,_,rfl,_,rfl,_,rfl,?_⟩
  refine bZ hR4 hd hm hT h2 (fun x s k pl hb=>nD (vm hb _ d) hb) fun x' p2 e2 hS2 h3 H5 w5 hR5 kp5 md5=>?_
  have kp04:=(kp2.trans kp3).trans kp4
  have l1:=zy hS2
  have l2:=lC (sM c)
  have l1:cX x'+(toks b p2).length<(toks b (ay b p1)).length:=l1
  have sz:=oN hR.len p
  refine CO (p:=(aa b p1 e1).place) Kt (nd3.keep (b:=b) hR.cells kp4) hR (kp04.grow hR4.cells) kp5 (kp5.grow hR5.cells) md5 (by omega) fun H6 v6 q6 lc nd6=>?_
  refine⟨(_,p2,e2),?_,v6,_,rfl,hR5.bM hR lc,(kp04.trans kp5).bM lc,h3,?_,nd6⟩
  ·show(toks b p2).length<(toks b p1).length
   omega
  ·show cX x+cX x'+1+(toks b p2).length<(toks b p).length
   omega
 ·rw[if_neg c]at h2
  exact⟨_,rfl,kk _ _ _ h2 H3 v hR3 (kp2.trans kp3) nd3.up⟩
theorem i5(T:Tx P w K mg a):∀m,cP P w K mg base a (10+3*m) a.kD a.jS m (cg a (2*m)) (a6 .sum)
 |0=>x5
 |m+1=>K4 T (k:=10+3*m+1+1) (by omega) (MA T (by omega) (Gg T (i5 T m)))
def JC(a:Ad):Sp:=fun vs H Q _=>∃(b:Bytes)(p:Nat)(x:Addr),vs=[.ref x]/\cS a b p H x/\cp b p/\Q (.bl (aa b p .none_).sums) H
theorem LV:aI ["token"] ["token"] (aD uE):=⟨rfl,rfl,rfl,by decide +kernel,rfl,by decide +kernel,by decide +kernel⟩
theorem zJ(b:Bytes)(p:Nat)(e e':aA):(aa b p e).sums=(aa b p e').sums:=by rw[tU,tU]
theorem MK{b:Bytes}{p:Nat}(nb:cp b p):(aa b p .none_).sums=(decide (eQ (aj b p)=("number":Str))||(decide (eQ (aj b p)=("name":Str))||decide (bc (aj b p)=("(":Str)))):=by
 have h1:decide (bc (aj b p)=("(":Str))=(aa b p .none_).isSign '(':=by
  rw[Bool.eq_iff_iff,decide_eq_true_eq]
  exact(eg (by decide +kernel)).trans (gw b p .none_ (c:='(') (by decide +kernel))
 rw[h1,tU]
 cases q:aj b p with
 |bad k=>exact absurd q (nb k)
 |num n=>rfl
 |word x=>
  rw[fY,q]
  show isName x=(decide (dv x=("number":Str))||(decide (dv x=("name":Str))||false))
  unfold dv
  by_cases h:isName x=true
  ·rw[if_pos h,h];decide +kernel
  ·rw[if_neg h,Bool.eq_false_iff.mpr h];decide +kernel
 |sign c=>
  rw[fY,q]
  show _=(decide (("fixed":Str)="number")||(decide (("fixed":Str)="name")||_))
  rw[show decide (("fixed":Str)="number")=false by decide +kernel,show decide (("fixed":Str)="name")=false by decide +kernel]
  rfl
 |done=>
  rw[fY,q]
  show _=(decide (("end":Str)="number")||(decide (("end":Str)="name")||_))
  rw[show decide (("end":Str)="number")=false by decide +kernel,show decide (("end":Str)="name")=false by decide +kernel]
  rfl
theorem B8(T:Tx P w K mg a):aB P w K mg base bx 1 a.oV a.oR ["token"] (JC a):=by
 refine T.wo.fn.ok LV (fun vs H Q E h=>?_) (fun cdv A outer s H vs Q E hr h=>?_)
 ·obtain⟨_,_,_,rfl,_⟩:=h;rfl
 obtain⟨b,p,x,rfl,tk,nb,q⟩:=h
 refine⟨_,ak (aK (sU (jq b9 (aH (pv 0) rfl) (bB T.qW) (aX _)) (sU (jq b9 (aH (pv 0) rfl) (bB T.jj) (aX _)) (sf (jq b9 (aH (pv 0) rfl) aQ (aX _)))))),?_⟩
 obtain⟨dt,ft,et,lt1,lt2,lt3,lt4,lt5⟩:=tk
 rw[MK nb]at q
 have cl:=T.bo.cl
 refine⟨_,rfl,x,_,dt,ft,_,rfl,et,cl,T.j0,lt1,rfl,_,rfl,?_⟩
 rw[cA]
 refine aT (fun c=>?_) (fun c=>?_)
 ·rw[c]at q;exact q
 rw[Bool.eq_false_iff.mpr c,Bool.false_or]at q
 refine⟨_,rfl,x,_,dt,ft,_,rfl,et,cl,T.j0,lt1,rfl,_,rfl,?_⟩
 rw[cA]
 refine aT (fun c=>?_) (fun c=>?_)
 ·rw[c]at q;exact q
 rw[Bool.eq_false_iff.mpr c,Bool.false_or]at q
 refine⟨_,rfl,x,_,dt,ft,_,rfl,et,cl,T.bV,lt2,rfl,?_⟩
 rw[cA]
 exact q
section
variable {α β:Type}{b:Bytes}{R:RA}{p d m:Nat}{L:NL}{e:aA}{H:Hp}{Q:VK}{E:XK}{r:Except Fault (α×ah)}
theorem AQ(b:Bytes)(p:Nat)(e:aA):LsWale.wideAt (aa b p e)=match aj b p with
  | .num n=>if 1<=n/\n<=16 then .ok (n,aa b (ay b p) e)else .error ⟨6,aM b p⟩
  |_=>wanted (aa b p e):=by
 unfold LsWale.wideAt
 rw[dJ]
 cases q:aj b p with
 |num n=>
  dsimp only
  rw[cE (by rw[q];rfl)];rfl
 |_=>rfl
end
def Gs:Rep Nat:=fun _ _ v n=>v=.int (n:Int)
theorem Ab:aI ["reader","token"] ["reader"] (aD wc):=⟨rfl,rfl,rfl,by decide +kernel,rfl,by decide +kernel,by decide +kernel⟩
theorem B7(T:Tx P w K mg a):cP P w K mg base a 10 a.qo a.pF 9 Gs (fun _=>LsWale.wideAt):=by
 refine aG.bq (k:=9) T.xj.fn Ab eV (fun cdv A outer s H vs Q E hr h=>?_)
 obtain⟨b,R,p,d,e,rfl,hR,hd,hm,hT,kk⟩:=eW h
 have C:=T.bC.cl
 refine⟨_,ai (aW (i:=1) Ab.nd rfl (Or.inl rfl) ((aV (pv 0) C T.fb.mt (xZ T) (hr.mono (by omega)) T.fb.bd .nil au (ae (bB T.qW) ag))))
  (ai (a7 (PW.pt (iq (a4 j2 (aH (pv 1) rfl) bN (aX _)) (iM (a4 jf (aH (pv 1) rfl) (cy T.LN) (aX _)))))
   (ak (eL rfl eP T.ji (tf T) T.qc.2 (hr.mono (by omega)) (aH (pv 1) rfl))) bj) (ak (aK (aH (pv 1) rfl)))),?_⟩
 refine⟨_,rfl,R.r,_,_,rfl,hR.ins,rfl,?_⟩
 refine BQ hR (hT.bt (e:=e) fun k pl hb=>.inl (Kk hb)) (fun nb hk H1 x hR1 kp1 tk1=>?_) (fun nb hk=>?_)
 ·obtain⟨n,hn⟩:=si.mp hk
  have hw:=AQ b p e
  rw[hn]at hw
  dsimp only at hw
  obtain⟨dt,ft,et,lt1,lt2,lt3,lt4,lt5⟩:=tk1
  have cl:=T.bo.cl
  have lt3':ft.lookup ("number":Str)=some (V.int (n:Int)):=by rw[lt3,hn];rfl
  have bad:∀lo,¬(1<=n/\n<=16)->k9 lo K a.nu E 6 (mw K (bA 1) "place") {nx:=fun _ H'=>Q .aw H',rt:=Q} [some (.ref R.r),some (.ref x)] H1:=fun lo hn2=>by
   rw[if_neg hn2]at hw
   exact⟨_,rfl,x,_,dt,ft,_,rfl,et,cl,T.gf,lt4,d6 T.ji (hT.err hw)⟩
  refine⟨_,rfl,x,_,dt,ft,_,rfl,et,cl,T.pw,lt3',_,_,rfl,rfl,_,rfl,?_⟩
  refine aT (fun c=>?_) (fun c=>?_)
  ·exact b5 (bad _ fun z=>by have:=of_decide_eq_true c;omega)
  ·refine⟨_,rfl,x,_,dt,ft,_,rfl,et,cl,T.pw,lt3',_,_,rfl,rfl,_,rfl,?_⟩
   refine aT (fun c2=>?_) (fun c2=>?_)
   ·exact bad _ fun z=>by have:=of_decide_eq_true c2;omega
   ·rw[if_pos (by
     have h1:¬((n:Int)<1):=fun z=>c (decide_eq_true z)
     have h2:¬((16:Int)<n):=fun z=>c2 (decide_eq_true z)
     omega)]at hw
    exact⟨_,rfl,x,_,dt,ft,_,rfl,et,cl,T.pw,lt3',kk _ _ _ hw H1 _ hR1 kp1 ⟨fun _=>False,rfl,fun _ z=>z.elim⟩⟩
 ·refine hT.err ?_
  rw[AQ]
  cases q:aj b p with
  |num n=>exact absurd (si.mpr ⟨n,q⟩) hk
  |bad k=>exact absurd q (nb k)
  |_=>exact eY nb
end Wale
end
section
set_option Elab.async false
set_option linter.all false
set_option maxRecDepth 100000
set_option maxHeartbeats 2000000
namespace Wale
open PySem PySem.Spec PyProof.Rows L2
open Wm
open LsWale (ascii)
variable {P:Program}{w:World}{K:PySem.W.Frag}{mg:Str->Option Value}{base:Heap}{a:Ad}
theorem mV(x y:Bytes):strOf x++strOf y=strOf (x++y):=by
 show Str.mk ((x.map UInt8.toNat).toArray++(y.map UInt8.toNat).toArray)=Str.mk ((x++y).map UInt8.toNat).toArray
 rw[List.map_append]
 simp
theorem str_len(x:Bytes):(strOf x).length=x.length:=by
 show((x.map UInt8.toNat).toArray).size=_
 simp
theorem empty_app(x:Bytes):Str.empty++strOf x=strOf x:=by
 have:Str.empty=strOf []:=rfl
 rw[this,mV];rfl
def JX(t1:TE)(z:Str)(t2:TE):TE:=fun σ H Q=>t1 σ H fun v1 H1=>∃n1:Int,v1=.int n1/\n1.natAbs.log2<1920/\(Str.empty++Str.ofString (toString n1)).length<=sizeLine/\((Str.empty++Str.ofString (toString n1))++z).length<=sizeLine/\
 t2 σ H1 fun v2 H2=>∃n2:Int,v2=.int n2/\n2.natAbs.log2<1920/\(((Str.empty++Str.ofString (toString n1))++z)++Str.ofString (toString n2)).length<=sizeLine/\Q (.str (((Str.empty++Str.ofString (toString n1))++z)++Str.ofString (toString n2))) H2
theorem GK{X:Cx}{e1 e2:Expr}{t1 t2:TE}{z:Str}{k:Nat}{p1 p2 p3 pos:Pos}(h1:PE X e1 t1)(h2:PE X e2 t2):
  PE X (.JoinedStr [.FormattedValue e1 (-1) none p1,.Constant (.str z) k p2,.FormattedValue e2 (-1) none p3] pos) (JX t1 z t2):=by
 intro pins s σ H Q I h
 refine wpAny_JoinedStr ?_
 show wpAny _ _ (eval (.FormattedValue e1 (-1) none p1) X.env) _ _ s
 refine wpAny_FormattedValue_plain (aJ (h1 pins s σ H _ I h) fun u s1⟨v,H1,I1,r,n1,e,hd,l1,l2,q⟩=>?_)
 subst e
 obtain⟨t,rfl⟩:=r
 refine wpAny_formatField_int hd ⟨_,_,rfl,l1,?_⟩
 show wpAny _ _ (eval (.Constant (.str z) k p2) X.env) _ _ _
 refine Calls.Constant_str ⟨_,_,rfl,l2,?_⟩
 show wpAny _ _ (eval (.FormattedValue e2 (-1) none p3) X.env) _ _ _
 refine wpAny_FormattedValue_plain (aJ (h2 pins _ σ H1 _ ((I1.tok _).tok _) q) fun u s2⟨v,H2,I2,r,n2,e,hd,l3,q⟩=>?_)
 subst e
 obtain⟨t,rfl⟩:=r
 refine wpAny_formatField_int hd ⟨_,_,rfl,l3,l3,⟨.str _,H2,(I2.tok _).tok _,⟨_,rfl⟩,q⟩⟩
def cF:List Bytes->Bytes
 |[]=>[]
 |[x]=>x
 |x::y::r=>x++32::cF (y::r)
def dF(ps:List (List Bytes)):Bytes:=LsWale.commas (ps.map cF)
theorem tm{xs ys:List Bytes}(h1:xs≠[])(h2:ys≠[]):cF (xs++ys)=cF xs++32::cF ys:=by
 induction xs with
 |nil=>exact absurd rfl h1
 |cons x r ih=>
  cases r with
  |nil=>
   cases ys with
   |nil=>exact absurd rfl h2
   |cons y r=>rfl
  |cons z r=>
   show x++32::cF ((z::r)++ys)=(x++32::cF (z::r))++32::cF ys
   rw[ih (by simp),List.append_assoc];rfl
def rD(a:Ad):Rep Bytes:=fun H F v s=>∃x,cg a 18 H F v x/\s=LsWale.sumText x
def iy(a:Ad)(r:Rep Bytes):Rep (List (List Bytes)):=fun H F v ps=>∃(c dx:Addr)(lv:V),v=.ref c/\F c/\H c=some (.ins a.gK dx [("phrases",lv)])/\cI (cI r) H F lv ps
def ua(a:Ad)(r:Rep Bytes):Rep (List (List Bytes)):=fun H F v ps=>∃(c dx:Addr)(lv:V),v=.ref c/\F c/\H c=some (.ins a.iP dx [("listed",lv)])/\iy a r H F lv ps
def dM(a:Ad):Nat->Rep Bytes
 |0=>rD a
 |n+1=>fun H F v s=>rD a H F v s\/(∃ps,iy a (dM a n) H F v ps/\s=dF ps)\/∃ps,ua a (dM a n) H F v ps/\s=40::(dF ps++[41])
theorem vz(a:Ad):Good (rD a):=⟨fun⟨x,h,e⟩q=>⟨x,(dk a 18).frame h q,e⟩,fun⟨x,h,e⟩m=>⟨x,(dk a 18).mono h m,e⟩⟩
theorem jh{r:Rep Bytes}(G:Good r):Good (iy a r) where
 frame:=by
  rintro H H' F v x ⟨c,dx,lv,rfl,h1,h2,h3⟩ e
  exact⟨c,dx,lv,rfl,h1,by rw[e c h1];exact h2,(bW (bW G)).frame h3 e⟩
 mono:=by
  rintro H F F' v x ⟨c,dx,lv,rfl,h1,h2,h3⟩ m
  exact⟨c,dx,lv,rfl,m c h1,h2,(bW (bW G)).mono h3 m⟩
theorem AE{r:Rep Bytes}(G:Good r):Good (ua a r) where
 frame:=by
  rintro H H' F v x ⟨c,dx,lv,rfl,h1,h2,h3⟩ e
  exact⟨c,dx,lv,rfl,h1,by rw[e c h1];exact h2,(jh G).frame h3 e⟩
 mono:=by
  rintro H F F' v x ⟨c,dx,lv,rfl,h1,h2,h3⟩ m
  exact⟨c,dx,lv,rfl,m c h1,h2,(jh G).mono h3 m⟩
theorem cj(a:Ad):∀n,Good (dM a n)
 |0=>vz a
 |n+1=>
  ⟨fun h e=>h.elim (fun z=>.inl ((vz a).frame z e)) fun h=>.inr (h.elim (fun⟨ps,z,q⟩=>.inl ⟨ps,(jh (cj a n)).frame z e,q⟩) fun⟨ps,z,q⟩=>.inr ⟨ps,(AE (cj a n)).frame z e,q⟩),
   fun h m=>h.elim (fun z=>.inl ((vz a).mono z m)) fun h=>.inr (h.elim (fun⟨ps,z,q⟩=>.inl ⟨ps,(jh (cj a n)).mono z m,q⟩) fun⟨ps,z,q⟩=>.inr ⟨ps,(AE (cj a n)).mono z m,q⟩)⟩
theorem Bo(n:Nat){H:Hp}{F:Fp}{v:V}{s:Bytes}(h:rD a H F v s):dM a n H F v s:=by
 cases n with
 |zero=>exact h
 |succ n=>exact .inl h
def bQ(a:Ad)(n:Nat):Rep (List Bytes):=cI (dM a n)
theorem cz(a:Ad)(n:Nat):Good (bQ a n):=bW (cj a n)
theorem bR{n:Nat}{H0 H:Hp}(s:Bytes):Md (dM a n) H0 H (.str (strOf s)) s:=⟨fun _=>False,Bo n ⟨.name 0 s,Ap a 18 ⟨rfl,rfl⟩,rfl⟩,fun _ z=>z.elim⟩
theorem i3{n:Nat}{H0 H:Hp}{v:V}{x:ba}(m:Md (cg a 18) H0 H v x):Md (dM a n) H0 H v (LsWale.sumText x):=m.map fun F h=>Bo n ⟨x,h,rfl⟩
def Ai(C:Addr)(f:Str):Sp:=fun vs H Q _=>∃(x dx:Addr)(u:V),vs=[.ref x,u]/\H x=some (.ins C dx [])/\∀H':Hp,H' x=some (.ins C dx [(f,u)])->(∀b o,H b=some o->b≠x->H' b=some o)->Q .aw H'
def J9(C:Addr)(f g:Str):Sp:=fun vs H Q _=>∃(x dx:Addr)(u t:V),vs=[.ref x,u,t]/\H x=some (.ins C dx [])/\∀H':Hp,H' x=some (.ins C dx [(f,u),(g,t)])->(∀b o,H b=some o->b≠x->H' b=some o)->Q .aw H'
theorem K7:aI ["self","phrases"] ["self","phrases"] (aD uM):=⟨rfl,rfl,rfl,by decide +kernel,rfl,by decide +kernel,by decide +kernel⟩
theorem Fi:aI ["self","listed"] ["self","listed"] (aD xx):=⟨rfl,rfl,rfl,by decide +kernel,rfl,by decide +kernel,by decide +kernel⟩
theorem Kp:aI ["self","phrase","body"] ["self","phrase","body"] (aD xB):=⟨rfl,rfl,rfl,by decide +kernel,rfl,by decide +kernel,by decide +kernel⟩
theorem xm(T:Tx P w K mg a):aB P w K mg base bx 1 a.jA a.lW ["self","phrases"] (Ai a.gK "phrases"):=by
 refine T.sW.1.ok K7 (fun vs H Q E h=>?_) (fun cdv A outer s H vs Q E hr h=>?_)
 ·obtain⟨_,_,_,rfl,_⟩:=h;rfl
 obtain⟨x,dx,u,rfl,hx,q⟩:=h
 refine⟨_,ak (cU (pv 0) (pv 1) rfl),?_⟩
 exact⟨_,rfl,_,rfl,x,_,dx,_,rfl,hx,T.kN.cl,T.J7,(by show 0<1000;decide),q _ az fun b o e hb=>by rw[ao hb];exact e⟩
theorem Ln(T:Tx P w K mg a):aB P w K mg base bx 1 a.kr a.nq ["self","listed"] (Ai a.iP "listed"):=by
 refine T.Bg.1.ok Fi (fun vs H Q E h=>?_) (fun cdv A outer s H vs Q E hr h=>?_)
 ·obtain⟨_,_,_,rfl,_⟩:=h;rfl
 obtain⟨x,dx,u,rfl,hx,q⟩:=h
 refine⟨_,ak (cU (pv 0) (pv 1) rfl),?_⟩
 exact⟨_,rfl,_,rfl,x,_,dx,_,rfl,hx,T.uh.cl,T.IK,(by show 0<1000;decide),q _ az fun b o e hb=>by rw[ao hb];exact e⟩
theorem je(T:Tx P w K mg a):aB P w K mg base bx 1 a.j6 a.mF ["self","phrase","body"] (J9 a.dG "phrase" "body"):=by
 refine T.hZ.1.ok Kp (fun vs H Q E h=>?_) (fun cdv A outer s H vs Q E hr h=>?_)
 ·obtain⟨_,_,_,_,rfl,_⟩:=h;rfl
 obtain⟨x,dx,u,t,rfl,hx,q⟩:=h
 refine⟨_,ai (cU (pv 0) (pv 1) rfl) (ak (cU (pv 0) (pv 2) rfl)),?_⟩
 exact⟨_,rfl,_,rfl,x,_,dx,_,rfl,hx,T.dC.cl,T.Kz,(by show 0<1000;decide),_,rfl,_,rfl,x,_,dx,_,rfl,az,T.dC.cl,T.Ib,(by show 1<1000;decide),q _ az fun b o e hb=>by rw[ao hb,ao hb];exact e⟩
theorem Md.listed{r:Rep Bytes}(G:Good r){H0 H H':Hp}{u:V}{ps:List (List Bytes)}{x dx:Addr}(m:Md (cI (cI r)) H0 H u ps)(g:b8 H0 H)(s:aN H H')(n:H x=none)(e:H' x=some (.ins a.gK dx [("phrases",u)])):Md (iy a r) H0 H' (.ref x) ps:=by
 obtain⟨F,h,sn⟩:=m.same (bW (bW G)) s
 refine⟨fun b=>b=x\/F b,⟨x,dx,u,rfl,.inl rfl,e,(bW (bW G)).mono h fun b hb=>.inr hb⟩,fun b hb=>?_⟩
 rcases hb with rfl|hb
 ·exact⟨g.none n,_,e⟩
 ·exact sn b hb
theorem Md.br{r:Rep Bytes}(G:Good r){H0 H H':Hp}{u:V}{ps:List (List Bytes)}{x dx:Addr}(m:Md (iy a r) H0 H u ps)(g:b8 H0 H)(s:aN H H')(n:H x=none)(e:H' x=some (.ins a.iP dx [("listed",u)])):Md (ua a r) H0 H' (.ref x) ps:=by
 obtain⟨F,h,sn⟩:=m.same (jh G) s
 refine⟨fun b=>b=x\/F b,⟨x,dx,u,rfl,.inl rfl,e,(jh G).mono h fun b hb=>.inr hb⟩,fun b hb=>?_⟩
 rcases hb with rfl|hb
 ·exact⟨g.none n,_,e⟩
 ·exact sn b hb
end Wale
end
section
set_option Elab.async false
set_option linter.all false
set_option maxRecDepth 100000
set_option maxHeartbeats 2000000
namespace Wale
open PySem PySem.Spec PyProof.Rows L2
open Wm
open LsWale (ascii Fault eatSign eatWord eatOpen anyName newName oldName markName holdName wanted isName)
variable {P:Program}{w:World}{K:PySem.W.Frag}{mg:Str->Option Value}{base:Heap}{a:Ad}
@[irreducible] def jr{α:Type}(K:PySem.W.Frag)(a:Ad)(m:Nat)(ρ:Rep α)(S:Nat->ah->Option (Except Fault (α×ah))):Sp:=fun vs H Q E=>∃(b:Bytes)(R:RA)(p d:Nat)(e:aA)(g:Except Fault (α×ah)),vs=[.ref R.r]/\aq a K b R p d (lst e) H/\d<=8/\8<d+m/\
 S d (aa b p e)=some g/\Tl K a E g/\∀x p' e',g=.ok (x,aa b p' e')->∀(H':Hp)(v:V),aq a K b R p' d (lst e') H'->aC R H H'->Md ρ H H' v x->Q v H'
theorem uA{α:Type}{m:Nat}{ρ:Rep α}{S:Nat->ah->Option (Except Fault (α×ah))}(vs:List V)(H:Hp)(Q:VK)(E:XK)(h:jr K a m ρ S vs H Q E):vs.length=1:=by
 unfold jr at h
 obtain⟨_,_,_,_,_,_,rfl,_⟩:=h;rfl
theorem xU{α:Type}{m:Nat}{ρ:Rep α}{S:Nat->ah->Option (Except Fault (α×ah))}{vs:List V}{H:Hp}{Q:VK}{E:XK}(h:jr K a m ρ S vs H Q E):∃(b:Bytes)(R:RA)(p d:Nat)(e:aA)(g:Except Fault (α×ah)),vs=[.ref R.r]/\aq a K b R p d (lst e) H/\d<=8/\8<d+m/\
 S d (aa b p e)=some g/\Tl K a E g/\∀x p' e',g=.ok (x,aa b p' e')->∀(H':Hp)(v:V),aq a K b R p' d (lst e') H'->aC R H H'->Md ρ H H' v x->Q v H':=by unfold jr at h;exact h
abbrev sP{α:Type}(P:Program)(w:World)(K:PySem.W.Frag)(mg:Str->Option Value)(base:Heap)(a:Ad)(k:Nat)(f:Addr)(fd:FuncData)(m:Nat)(ρ:Rep α)(S:Nat->ah->Option (Except Fault (α×ah))):Prop:=aB P w K mg base (a8 P w) k f fd ["reader"] (jr K a m ρ S)
section
variable {α β:Type}{b:Bytes}{R:RA}{p d m:Nat}{L:NL}{e:aA}{H:Hp}{Q:VK}{E:XK}{r:Except Fault (α×ah)}
theorem vR{ρ:Rep β}{S:Nat->ah->Option (Except Fault (β×ah))}{g:Except Fault (β×ah)}{f:β×ah->Except Fault (α×ah)}(hR:aq a K b R p d (lst e) H)(hd:d<=8)(hm:8<d+m)(hg:S d (aa b p e)=some g)(hT:Tl K a E r)(hr:r=g>>=f)(hB:∀x s k pl,HB s k pl->bF (f (x,s)) k pl)
  (kk:∀x p' e',g=.ok (x,aa b p' e')->r=f (x,aa b p' e')->∀(H':Hp)(v:V),aq a K b R p' d (lst e') H'->aC R H H'->Md ρ H H' v x->Q v H'):jr K a m ρ S [.ref R.r] H Q E:=by
 unfold jr
 exact⟨b,R,p,d,e,g,rfl,hR,hd,hm,hg,fun k pl h=>hT k pl (by rw[hr];exact h.bind fun x s hb=>hB x s k pl hb),fun x p' e' hS=>kk x p' e' hS (by rw[hr,hS];rfl)⟩
end
theorem ff{b:Bytes}{p:Nat}{z:Str}{c:String}(e:aA)(hz:z=strOf (ascii c):=by decide +kernel)(hc:iN c=true:=by decide +kernel):decide (bc (aj b p)=z)=(aa b p e).isWord c:=by
 rw[Bool.eq_iff_iff,decide_eq_true_eq]
 exact(eg hz).trans (jB b p e hc)
theorem lL{s:ah}{x y:String}(h:s.isWord x=true)(n:ascii x≠ascii y):s.isWord y=false:=by
 unfold LsWale.St.isWord at h ⊢
 cases q:s.ts with
 |nil=>rfl
 |cons t r=>
  rw[q]at h
  obtain⟨pl,tk⟩:=t
  cases tk with
  |word z=>
   have h:(z==ascii x)=true:=h
   rw[beq_iff_eq]at h
   show(z==ascii y)=false
   rw[h]
   exact beq_eq_false_iff_ne.mpr n
  |_=>rfl
theorem w9{b:Bytes}{p:Nat}{e:aA}(h:¬cv (aj b p)=true)(x:String):(aa b p e).isWord x=false:=Bool.eq_false_iff.mpr fun z=>h (jx z)
theorem map_bind{α β:Type}(r:Except Fault α)(f:α->β):r.map f=r>>=fun x=>.ok (f x):=by cases r<;>rfl
def j8{α β:Type}(r:Rep β)(f:α->β):Rep α:=fun H F v x=>r H F v (f x)
def eJ(a:Ad)(n:Nat):Rep Bytes:=fun H F v s=>∃ph,bQ a n H F v ph/\ph≠[]/\ph.length<=4/\cF ph=s
theorem qC{n:Nat}{H0 H:Hp}{l:Addr}{v:V}{s:Bytes}(m:Md (dM a n) H0 H v s)(hl:H l=none)(g:b8 H0 H):Md (eJ a n) H0 (upd H l (.lst [v])) (.ref l) s:=
 (aE.list (cj a n) (aE.cons (cj a n) m aE.nil) hl g).map fun F h=>⟨[s],h,by simp,(by show 1<=4;decide),rfl⟩
theorem pC{n:Nat}{H0 H:Hp}{l:Addr}{v u:V}{s t:Bytes}(m:Md (dM a n) H0 H v s)(m':Md (dM a n) H0 H u t)(hl:H l=none)(g:b8 H0 H):Md (eJ a n) H0 (upd H l (.lst [v,u])) (.ref l) (s++32::t):=
 (aE.list (cj a n) (aE.cons (cj a n) m (aE.cons (cj a n) m' aE.nil)) hl g).map fun F h=>⟨[s,t],h,by simp,(by show 2<=4;decide),rfl⟩
theorem fO{b:Bytes}{p:Nat}{e:aA}{c:String}(h:(aa b p e).isWord c=true)(hc:iN c=true:=by decide +kernel):bc (aj b p)=strOf (ascii c):=by rw[ny,(jB b p e hc).mpr h]
def oA(_:Nat)(s:ah):Option (Except Fault ((Bool×Nat×Nat)×ah)):=if(s.isWord "cl"||s.isWord "cr")=true then some (LsWale.wideAt s.next>>=fun n=>eatSign '/' n.2>>=fun t=>LsWale.wideAt t>>=fun m=>.ok ((s.isWord "cr",n.1,m.1),m.2))else none
def qD(x:Bool×Nat×Nat):Bytes:=LsWale.unitText (.cable x.1 x.2.1 x.2.2)
theorem sN:aI ["reader","word","left","right"] ["reader"] (aD uO):=⟨rfl,rfl,rfl,by decide +kernel,rfl,by decide +kernel,by decide +kernel⟩
theorem kF{α:Type}{s:ah}{k pl:Nat}{c:Char}{f:ah->Except Fault (α×ah)}(h:HB s k pl):bF (eatSign c s>>=f) k pl:=by rw[tD h];exact .inl rfl
theorem tX{b:Bytes}{p:Nat}{e:aA}{x y:String}(h:((aa b p e).isWord x||(aa b p e).isWord y)=true):cv (aj b p)=true:=by
 rcases(Bool.or_eq_true _ _).mp h with h|h
 ·exact jx h
 ·exact jx h
theorem Bd{s t:ah}{n:Nat}(h:LsWale.wideAt s=.ok (n,t)):n<=16:=by
 unfold LsWale.wideAt at h
 split at h
 ·split at h
  ·rename_i q
   cases h
   exact q.2
  ·cases h
 ·exact absurd h (by unfold wanted;split<;>exact fun z=>nomatch z)
theorem D4:∀n,n<=16->(LsWale.decimal n).length<=2:=by decide +kernel
theorem EW(T:Tx P w K mg a)(N:Nat):sP P w K mg base a 11 a.pO a.oy 9 (j8 (eJ a N) qD) oA:=by
 refine aG.bq (k:=10) T.BS.fn sN uA (fun cdv A outer s H vs Q E hr h=>?_)
 obtain⟨b,R,p,d,e,g,rfl,hR,hd,hm,hg,hT,kk⟩:=xU h
 have C:=T.bC.cl
 refine⟨_,ai (aW (i:=1) sN.nd rfl (Or.inl rfl) (aH (cq (pv 0) C T.cx.mt (iH T) (hr.mono (by omega)) T.cx.bd .nil au) rfl)) (ai (aW (i:=2) sN.nd rfl (Or.inl rfl) (aS T.xj (B7 T) hr au (ae (pv 0) ag)))
  (ai (a0 (aV (pv 0) C T.cH.mt (gR T) (hr.mono (by omega)) T.cH.bd .nil au (ae aQ ag))) (ai (aW (i:=3) sN.nd rfl (Or.inl rfl) (aS T.xj (B7 T) hr au (ae (pv 0) ag)))
  (ak (aK (bK (ae (pv 1) (ae (GK (pv 2) (pv 3)) ag)))))))),?_⟩
 unfold oA at hg
 by_cases c:((aa b p e).isWord "cl"||(aa b p e).isWord "cr")=true
 ·rw[if_pos c]at hg
  have e0:=(Option.some.inj hg).symm
  rw[cE (tX c)]at e0
  have hw:bc (aj b p)=strOf (ascii (if(aa b p e).isWord "cr"=true then "cr" else "cl")):=by
   by_cases c2:(aa b p e).isWord "cr"=true
   ·rw[if_pos c2];exact fO c2
   ·rw[if_neg c2];exact fO (((Bool.or_eq_true _ _).mp c).resolve_right c2)
  refine⟨_,rfl,R.r,_,_,rfl,hR.ins,rfl,?_⟩
  refine iA hR (sT (tX c)) fun H1 y hR1 kp1 tk1=>?_
  obtain⟨dt,ft,et,lt1,lt2,lt3,lt4,lt5⟩:=tk1
  rw[hw]at lt2
  refine⟨y,_,dt,ft,_,rfl,et,T.bo.cl,T.bV,lt2,_,rfl,?_⟩
  refine bZ (S:=fun _=>LsWale.wideAt) hR1 hd hm hT e0 (fun x s k pl hb=>kF hb) fun n p2 e2 hS e3 H2 v2 hR2 kp2 md2=>?_
  obtain⟨_,ev2,-⟩:=md2
  cases (show v2=.int (n:Int)from ev2)
  refine⟨_,rfl,R.r,_,_,rfl,hR2.ins,rfl,?_⟩
  refine gy hR2 hT e3 (k:=fun e4 H3 y hR3 kp3 tk3=>⟨_,rfl,?_⟩)
  refine bZ (S:=fun _=>LsWale.wideAt) hR3 hd hm hT e4 (fun x s k pl hb=>c7 hb) fun n' p4 e5 hS' e6 H4 v4 hR4 kp4 md4=>?_
  obtain⟨_,ev4,-⟩:=md4
  cases (show v4=.int (n':Int)from ev4)
  have h16:=Bd hS
  have h16':=Bd hS'
  have d1:=D4 n h16
  have d2:=D4 n' h16'
  have sz:sizeLine=16777216:=by decide
  have es:(Str.empty++Str.ofString (toString (n:Int)))=strOf (LsWale.decimal n):=by rw[jY,empty_app]
  have eslash:("/":Str)=strOf [47]:=by decide +kernel
  refine⟨_,rfl,_,rfl,_,rfl,uu (by omega),?_,?_,_,rfl,_,rfl,uu (by omega),?_,(by show 2<=sizeLine;decide),fun l hl=>?_⟩
  ·rw[es,str_len];omega
  ·rw[es,eslash,mV,str_len,List.length_append];simp only[List.length_cons,List.length_nil];omega
  ·rw[es,eslash,mV,jY,mV,str_len];simp only[List.length_append,List.length_cons,List.length_nil];omega
  have kp:=((kp1.trans kp2).trans kp3).trans kp4
  refine kk _ _ _ e6 _ _ (hR4.same (aP hl)) (kp.trans (bg (aP hl))) ?_
  rw[es,eslash,mV,jY,mV]
  have m:=pC (n:=N) (bR (a:=a) (H0:=H) (H:=H4) (ascii (if(aa b p e).isWord "cr"=true then "cr" else "cl"))) (bR (LsWale.decimal n++[47]++LsWale.decimal n')) hl (kp.grow hR4.cells)
  refine m.map fun F q=>?_
  show eJ a N _ F _ (qD ((aa b p e).isWord "cr",n,n'))
  have et:qD ((aa b p e).isWord "cr",n,n')=ascii (if(aa b p e).isWord "cr"=true then "cr" else "cl")++32::(LsWale.decimal n++[47]++LsWale.decimal n'):=by
   show ascii (if(aa b p e).isWord "cr"=true then "cr " else "cl ")++(LsWale.decimal n++47::LsWale.decimal n')=_
   rw[List.append_assoc (LsWale.decimal n)]
   cases (aa b p e).isWord "cr"<;>rfl
  rw[et]
  exact q
 ·rw[if_neg c]at hg;cases hg
def wY(_:Nat)(s:ah):Option (Except Fault (LsWale.Lone×ah)):=LsWale.loneAt s
theorem G0{b:Bytes}{p:Nat}{e:aA}{g:Except Fault (LsWale.Lone×ah)}(h:LsWale.loneAt (aa b p e)=some g):cv (aj b p)=true:=by
 by_cases c:cv (aj b p)=true
 ·exact c
 ·unfold LsWale.loneAt at h
  simp only[w9 c]at h
  cases h
theorem zT:aI ["reader","word"] ["reader"] (aD yG):=⟨rfl,rfl,rfl,by decide +kernel,rfl,by decide +kernel,by decide +kernel⟩
theorem GW{b:Bytes}{p:Nat}(e:aA):dH (.str (bc (aj b p))) [.str "mark",.str "pass",.str "clear"]=((aa b p e).isWord "mark"||((aa b p e).isWord "pass"||((aa b p e).isWord "clear"||false))):=
 in_words (b:=b) (p:=p) (e:=e) ["mark","pass","clear"] (l:=["mark","pass","clear"]) (by decide +kernel) (by decide +kernel)
theorem Jw(T:Tx P w K mg a)(N:Nat):sP P w K mg base a 11 a.qH a.pD 9 (j8 (eJ a N) LsWale.loneText) wY:=by
 refine aG.bq (k:=10) T.zp.fn zT uA (fun cdv A outer s H vs Q E hr h=>?_)
 obtain⟨b,R,p,d,e,g,rfl,hR,hd,hm,hg,hT,kk⟩:=xU h
 have C:=T.bC.cl
 refine⟨_,ai (aW (i:=1) zT.nd rfl (Or.inl rfl) (aH (cq (pv 0) C T.cx.mt (iH T) (hr.mono (by omega)) T.cx.bd .nil au) rfl))
  (ai (a7 (a4 b9 (pv 1) aQ (aX _)) (ak (aK (bK (ae (pv 1) (ae ((aV (pv 0) C T.ir.mt (rW T) (hr.mono (by omega)) T.ir.bd .nil au (ae (bB T.C2) ag))) ag))))) bj)
  (ai (a7 (a4 b9 (pv 1) aQ (aX _)) (ak (aK (bK (ae (pv 1) (ae ((aV (pv 0) C T.iF.mt (sv T) (hr.mono (by omega)) T.iF.bd .nil au (ae (bB T.uH) ag))) ag))))) bj)
  (ai (a7 (a4 pJ (pv 1) (jT (ae aQ (ae aQ (ae aQ ag)))) (by rfl)) (ak (aK (bK (ae (pv 1) (ae ((aV (pv 0) C T.ir.mt (rW T) (hr.mono (by omega)) T.ir.bd .nil au (ae (bB T.C8) ag))) ag))))) bj)
  (ak (aK (bK (ae (pv 1) ag))))))),?_⟩
 have ht:=G0 hg
 refine⟨_,rfl,R.r,_,_,rfl,hR.ins,rfl,?_⟩
 refine iA hR (sT ht) fun H1 x hR1 kp1 tk1=>?_
 obtain⟨dt,ft,et,lt1,lt2,lt3,lt4,lt5⟩:=tk1
 refine⟨x,_,dt,ft,_,rfl,et,T.bo.cl,T.bV,lt2,_,rfl,rfl,_,rfl,?_⟩
 unfold wY LsWale.loneAt at hg
 rw[cA,ff (c:="take") e]
 rw[cE ht]at hg
 have fin2:∀{c:String}{y:Bytes}{z:LsWale.Lone}{H2:Hp}{p':Nat}{e':aA},(aa b p e).isWord c=true->iN c=true->g=.ok (z,aa b p' e')->LsWale.loneText z=ascii c++32::y->aq a K b R p' d (lst e') H2->aC R H H2->∀l,H2 l=none->
   Q (.ref l) (upd H2 l (.lst [.str (bc (aj b p)),.str (strOf y)])):=fun{c y z H2 p' e'}hc hw hgz ht hR2 kp2 l hl=>by
  refine kk _ _ _ hgz _ _ (hR2.same (aP hl)) (kp2.trans (bg (aP hl))) ?_
  rw[fO hc hw]
  refine(pC (n:=N) (bR (a:=a) (H0:=H) (H:=H2) (ascii c)) (bR y) hl (kp2.grow hR2.cells)).map fun F q=>?_
  show eJ a N _ F _ (LsWale.loneText z)
  rw[ht];exact q
 have fin1:∀{c:String}{z:LsWale.Lone}{H2:Hp}{p':Nat}{e':aA},(aa b p e).isWord c=true->iN c=true->g=.ok (z,aa b p' e')->LsWale.loneText z=ascii c->aq a K b R p' d (lst e') H2->aC R H H2->∀l,H2 l=none->
   Q (.ref l) (upd H2 l (.lst [.str (bc (aj b p))])):=fun{c z H2 p' e'}hc hw hgz ht hR2 kp2 l hl=>by
  refine kk _ _ _ hgz _ _ (hR2.same (aP hl)) (kp2.trans (bg (aP hl))) ?_
  rw[fO hc hw]
  refine(qC (n:=N) (bR (a:=a) (H0:=H) (H:=H2) (ascii c)) hl (kp2.grow hR2.cells)).map fun F q=>?_
  show eJ a N _ F _ (LsWale.loneText z)
  rw[ht];exact q
 refine aT (fun c=>?_) (fun c=>?_)
 ·rw[if_pos c,map_bind]at hg
  refine⟨_,rfl,_,rfl,R.r,_,_,rfl,hR1.ins,rfl,?_⟩
  exact AZ hR1 hT (Option.some.inj hg).symm fun y hy H2 hR2 kp2=>⟨(by show 2<=sizeLine;decide),fin2 c (by decide +kernel) hy rfl hR2 (kp1.trans kp2)⟩
 rw[if_neg c]at hg
 refine⟨_,rfl,rfl,_,rfl,?_⟩
 rw[cA,ff (c:="yarn") e]
 refine aT (fun c=>?_) (fun c=>?_)
 ·rw[if_pos c,map_bind]at hg
  refine⟨_,rfl,_,rfl,R.r,_,_,rfl,hR1.ins,rfl,?_⟩
  exact rf (k:=.yarns) hR1 rfl hT (Option.some.inj hg).symm rfl fun y hy H2 hR2 kp2=>⟨(by show 2<=sizeLine;decide),fin2 c (by decide +kernel) hy rfl hR2 (kp1.trans kp2)⟩
 rw[if_neg c]at hg
 refine⟨_,rfl,(by show 3<=sizeLine;decide),fun q hq=>?_⟩
 refine⟨q,_,rfl,.inr (.inl (.inl az)),rfl,rfl,_,rfl,?_⟩
 have hR2:=hR1.same (aP (o:=.tup [.str "mark",.str "pass",.str "clear"]) hq)
 have kp2:aC R H (upd H1 q (.tup [.str "mark",.str "pass",.str "clear"])):=kp1.trans (bg (aP hq))
 rw[if_neg Bool.false_ne_true,GW e]
 by_cases c1:(aa b p e).isWord "mark"=true
 ·rw[if_pos c1,map_bind]at hg
  rw[c1]
  refine b5 ⟨_,rfl,_,rfl,R.r,_,_,rfl,hR2.ins,rfl,?_⟩
  exact rZ hR2 hT (Option.some.inj hg).symm fun y hy H3 hR3 kp3=>⟨(by show 2<=sizeLine;decide),fin2 c1 (by decide +kernel) hy rfl hR3 (kp2.trans kp3)⟩
 rw[if_neg c1]at hg
 rw[Bool.eq_false_iff.mpr c1]
 by_cases c2:(aa b p e).isWord "pass"=true
 ·rw[if_pos c2,map_bind]at hg
  rw[c2]
  refine b5 ⟨_,rfl,_,rfl,R.r,_,_,rfl,hR2.ins,rfl,?_⟩
  exact rZ hR2 hT (Option.some.inj hg).symm fun y hy H3 hR3 kp3=>⟨(by show 2<=sizeLine;decide),fin2 c2 (by decide +kernel) hy rfl hR3 (kp2.trans kp3)⟩
 rw[if_neg c2]at hg
 rw[Bool.eq_false_iff.mpr c2]
 by_cases c3:(aa b p e).isWord "clear"=true
 ·rw[if_pos c3,map_bind]at hg
  rw[c3]
  refine b5 ⟨_,rfl,_,rfl,R.r,_,_,rfl,hR2.ins,rfl,?_⟩
  exact rZ hR2 hT (Option.some.inj hg).symm fun y hy H3 hR3 kp3=>⟨(by show 2<=sizeLine;decide),fin2 c3 (by decide +kernel) hy rfl hR3 (kp2.trans kp3)⟩
 rw[if_neg c3]at hg
 rw[Bool.eq_false_iff.mpr c3]
 refine df ?_
 by_cases c4:(aa b p e).isWord "turn"=true
 ·rw[if_pos c4]at hg
  exact⟨_,rfl,(by show 1<=sizeLine;decide),fin1 c4 (by decide +kernel) (Option.some.inj hg).symm rfl hR2 kp2⟩
 rw[if_neg c4]at hg
 by_cases c5:(aa b p e).isWord "fasten"=true
 ·rw[if_pos c5]at hg
  exact⟨_,rfl,(by show 1<=sizeLine;decide),fin1 c5 (by decide +kernel) (Option.some.inj hg).symm rfl hR2 kp2⟩
 rw[if_neg c5]at hg
 cases hg
def fW(d:Nat)(s:ah):Except Fault (LsWale.Reach×ah):=
 if s.isWord "end"=true then .ok (.to_ .row,s.next)
 else if s.isWord "last"=true then(a6 .sum d s.next>>=fun x=>.ok (.to_ (.last x.1),x.2))
 else(eatWord "mark" s>>=fun t=>markName t>>=fun x=>.ok (.to_ (.mark x.1),x.2))
theorem yO{s:ah}{k pl:Nat}(h:HB s k pl)(d:Nat):fW d s=.error ⟨k,pl⟩:=by
 unfold fW
 rw[if_neg (by rw[gg h];decide),if_neg (by rw[gg h];decide),zK h];rfl
def CL:LsWale.Reach->Bytes
 | .to_ .row=>ascii "end"
 | .to_ (.last x)=>ascii "last"++32::LsWale.sumText x
 | .to_ (.mark n)=>ascii "mark"++32::n
 |_=>[]
theorem ME:aI ["reader"] ["reader"] (aD vj):=⟨rfl,rfl,rfl,by decide +kernel,rfl,by decide +kernel,by decide +kernel⟩
theorem Fh:("end":Str)=strOf (ascii "end"):=by decide +kernel
theorem Jv:("last":Str)=strOf (ascii "last"):=by decide +kernel
theorem EH:("mark":Str)=strOf (ascii "mark"):=by decide +kernel
theorem Kx(T:Tx P w K mg a)(N:Nat):cP P w K mg base a 38 a.oo a.pj 9 (j8 (eJ a N) CL) fW:=by
 refine aG.bq (k:=37) T.DU.fn ME eV (fun cdv A outer s H vs Q E hr h=>?_)
 obtain⟨b,R,p,d,e,rfl,hR,hd,hm,hT,kk⟩:=eW h
 have C:=T.bC.cl
 refine⟨_,ai (a7 (di (aV (pv 0) C T.dO.mt (iQ T) (hr.mono (by omega)) T.dO.bd .nil au (ae aQ ag))) (ak (aK (bK (ae aQ (ae (aS T.iJ (i5 T 9) hr au (ae (pv 0) ag)) ag))))) bj)
  (ai (a7 (di (aV (pv 0) C T.dO.mt (iQ T) (hr.mono (by omega)) T.dO.bd .nil au (ae aQ ag))) (ak (aK (bK (ae aQ (ae ((aV (pv 0) C T.ir.mt (rW T) (hr.mono (by omega)) T.ir.bd .nil au (ae (bB T.C8) ag))) ag))))) bj) (ai (a0 (aV (pv 0) C T.cH.mt (gR T) (hr.mono (by omega)) T.cH.bd .nil au (ae aQ ag))) (ak (aK (bK (ae aQ ag)))))),?_⟩
 refine⟨_,rfl,R.r,_,_,rfl,hR.ins,rfl,?_⟩
 refine nW (c:="last") (e:=e) hR hT (fun k pl hb=>.inl (yO hb d)) (fun c H1 hR1 kp1=>?_) (fun c nb H1 hR1 kp1=>?_)
 ·have e1:fW d (aa b p e)=(a6 .sum d (aa b (ay b p) e)>>=fun x=>.ok (.to_ (.last x.1),x.2)):=by
   unfold fW
   rw[if_neg (by rw[lL c (y:="end") (by decide +kernel)];decide),if_pos c,cE (jx c)]
  refine⟨_,rfl,b5 ⟨_,rfl,?_⟩⟩
  refine bZ hR1 hd hm hT e1 (fun x s k pl hb=>c7 hb) fun x p2 e2 hS e3 H2 v2 hR2 kp2 md2=>⟨(by show 2<=sizeLine;decide),fun l hl=>?_⟩
  have kp:=kp1.trans kp2
  refine kk _ _ _ e3 _ _ (hR2.same (aP hl)) (kp.trans (bg (aP hl))) ?_
  rw[Jv]
  exact pC (bR _) (i3 (md2.old (kp1.grow hR1.cells))) hl (kp.grow hR2.cells)
 refine⟨_,rfl,df ⟨_,rfl,R.r,_,_,rfl,hR1.ins,rfl,?_⟩⟩
 refine nW (c:="mark") (e:=e) hR1 hT (fun k pl hb=>.inl (yO hb d)) (fun c2 H2 hR2 kp2=>?_) (fun c2 nb H2 hR2 kp2=>?_)
 ·have e1:fW d (aa b p e)=(markName (aa b (ay b p) e)>>=fun x=>.ok (.to_ (.mark x.1),x.2)):=by
   unfold fW eatWord
   rw[if_neg (by rw[lL c2 (y:="end") (by decide +kernel)];decide),if_neg (by rw[c];decide),if_pos c2,cE (jx c2)]
   rfl
  refine⟨_,rfl,b5 ⟨_,rfl,R.r,_,_,rfl,hR2.ins,rfl,?_⟩⟩
  refine rZ hR2 hT e1 fun y hy H3 hR3 kp3=>⟨(by show 2<=sizeLine;decide),fun l hl=>?_⟩
  have kp:=(kp1.trans kp2).trans kp3
  refine kk _ _ _ hy _ _ (hR3.same (aP hl)) (kp.trans (bg (aP hl))) ?_
  rw[EH]
  exact pC (bR _) (bR y) hl (kp.grow hR3.cells)
 have e1:fW d (aa b p e)=(eatWord "end" (aa b p e)>>=fun t=>.ok (.to_ .row,t)):=by
  unfold fW eatWord
  have c2':¬(aa b p e).isWord "mark"=true:=by rw[c2];decide
  rw[if_neg c2']
  by_cases c3:(aa b p e).isWord "end"=true
  ·rw[if_pos c3,if_pos c3];rfl
  ·rw[if_neg c3,if_neg c3,if_neg (by rw[c];decide),eY nb];rfl
 refine⟨_,rfl,df ⟨_,rfl,R.r,_,_,rfl,hR2.ins,rfl,?_⟩⟩
 refine Aa hR2 hT e1 (k:=fun e3 H3 x hR3 kp3 tk3=>⟨(by show 1<=sizeLine;decide),fun l hl=>?_⟩)
 have kp:=(kp1.trans kp2).trans kp3
 refine kk _ _ _ e3 _ _ (hR3.same (aP hl)) (kp.trans (bg (aP hl))) ?_
 rw[Fh]
 exact qC (bR _) hl (kp.grow hR3.cells)
end Wale
end
section
set_option Elab.async false
set_option linter.all false
set_option maxRecDepth 100000
set_option maxHeartbeats 2000000
namespace Wale
open PySem PySem.Spec PyProof.Rows L2
open Wm
open LsWale (ascii Fault eatSign eatWord eatOpen anyName newName oldName markName holdName wanted isName PLAINS)
variable {P:Program}{w:World}{K:PySem.W.Frag}{mg:Str->Option Value}{base:Heap}{a:Ad}
def gY(d:Nat)(s:ah):Except Fault ((LsWale.Reach->LsWale.Items->LsWale.Items)×ah):=
 if s.isSign '('=true then(eatOpen '(' d s>>=fun t=>cw (d+1) t>>=fun l=>eatSign ')' l.2>>=fun u=>.ok (LsWale.Items.group s.place l.1,u))
 else(LsWale.unitAt s>>=fun u=>.ok (LsWale.Items.one s.place u.1,u.2))
theorem Ip{d:Nat}{s:ah}(h:LsWale.loneAt s=none):eZ d s=gY d s>>=fun u=>iZ d u.2>>=fun r=>.ok (u.1 r.1,r.2):=by
 unfold eZ fN gY
 rw[h]
 dsimp only
 by_cases c:s.isSign '('=true
 ·rw[if_pos c,if_pos c];simp only[bL];rfl
 ·rw[if_neg c,if_neg c];simp only[bL];rfl
theorem DG{s:ah}{k pl:Nat}(h:HB s k pl)(d:Nat):gY d s=.error ⟨k,pl⟩:=by
 unfold gY
 rw[if_neg (by rw[fP h];decide),zL h];rfl
theorem JV(b:Bytes)(p:Nat):dH (.str (bc (aj b p))) ((["k","p","ktbl","ptbl","yo","k2tog","k3tog","ssk","sssk","p2tog","ssp","cdd","kfb","pfb","kp","m1l","m1r","sl","slf","pso","even","co","bo"]:List Str).map V.str)=PLAINS.contains (gc (aj b p)):=by
 rw[A2,ny,m8]
theorem Mv:∀x∈PLAINS,∃c r,x=c::r/\LsWale.isLetter c=true:=by
 intro x hx
 have h:PLAINS.all (fun x=>match x with|c::_=>LsWale.isLetter c|[]=>false)=true:=by decide +kernel
 have:=List.all_eq_true.mp h x hx
 cases x with
 |nil=>cases this
 |cons c r=>exact⟨c,r,rfl,this⟩
theorem Mh{b:Bytes}{p:Nat}(h:PLAINS.contains (gc (aj b p))=true):aj b p=.word (gc (aj b p)):=by
 obtain⟨c,r,e,l⟩:=Mv _ (by simpa using h)
 exact(zY e l (yo b p)).mp rfl
theorem y1(x:Bytes):(PLAINS.findIdx? fun z=>z==x).isSome=PLAINS.contains x:=by
 rw[List.findIdx?_isSome,Bool.eq_iff_iff]
 simp
theorem pY{b:Bytes}{p:Nat}{e:aA}{x:Bytes}(h:aj b p=.word x):LsWale.unitAt (aa b p e)=match PLAINS.findIdx? fun z=>z==x with
  |some k=>.ok (.plain k,aa b (ay b p) e)
  |none=>if((aa b p e).isWord "cl"||(aa b p e).isWord "cr")=true then(LsWale.wideAt (aa b (ay b p) e)>>=fun n=>eatSign '/' n.2>>=fun t=>LsWale.wideAt t>>=fun m=>.ok (.cable ((aa b p e).isWord "cr") n.1 m.1,m.2))
   else if(aa b p e).isWord "hold"=true then(holdName (aa b (ay b p) e)>>=fun x=>.ok (.hold x.1,x.2))
   else(oldName e.words (aa b p e)>>=fun x=>.ok (.word x.1,x.2)):=by
 have hn:=cE (b:=b) (p:=p) (e:=e) (by rw[h];rfl)
 unfold LsWale.unitAt
 rw[dJ,h,hn]
 rfl
def jt(rest:LsWale.Items):Bytes:=if rest=.nil then[]else ascii ", "++LsWale.itemsText rest
def vP(a:Ad)(n:Nat):Rep (LsWale.Reach->LsWale.Items->LsWale.Items):=fun H F v k=>∃s,eJ a n H F v s/\(∀r rest,LsWale.itemsText (k r rest)=s++(LsWale.reachText r++jt rest))/\∀r rest,k r rest≠ .nil
def oI(a:Ad)(n:Nat):Rep LsWale.Items:=fun H F v it=>∃ps,iy a (dM a n) H F v ps/\dF ps=LsWale.itemsText it
theorem Bw(a:Ad)(n:Nat):Good (oI a n):=⟨fun⟨ph,h,q⟩e=>⟨ph,(jh (cj a n)).frame h e,q⟩,fun⟨ph,h,q⟩m=>⟨ph,(jh (cj a n)).mono h m,q⟩⟩
theorem EC{y:Bytes}{j:Nat}(h:(PLAINS.findIdx? fun z=>z==y)=some j):PLAINS.getD j []=y:=by
 obtain⟨hl,h1,-⟩:=List.findIdx?_eq_some_iff_getElem.mp h
 rw[List.getD_eq_getElem?_getD,List.getElem?_eq_getElem hl]
 exact eq_of_beq h1
theorem GH:("hold":Str)=strOf (ascii "hold"):=by decide +kernel
theorem Md.unit{n:Nat}{H0 H:Hp}{v:V}{s:Bytes}{k:LsWale.Reach->LsWale.Items->LsWale.Items}(m:Md (eJ a n) H0 H v s)(h:∀r rest,LsWale.itemsText (k r rest)=s++(LsWale.reachText r++jt rest))(hn:∀r rest,k r rest≠ .nil:=by intro r rest z;cases z):Md (vP a n) H0 H v k:=m.map fun F q=>⟨s,q,h,hn⟩
theorem yt:aI ["reader","token","listed"] ["reader"] (aD yu):=⟨rfl,rfl,rfl,by decide +kernel,rfl,by decide +kernel,by decide +kernel⟩
theorem Hf(T:Tx P w K mg a){m n:Nat}(F:cP P w K mg base a (40+3*m) a.jO a.jJ m (oI a n) cw):cP P w K mg base a (40+3*m+1) a.mZ a.lY (m+1) (vP a (n+1)) gY:=by
 refine aG.bq (k:=40+3*m) T.Cg.fn yt eV (fun cdv A outer s H vs Q E hr h=>?_)
 obtain⟨b,R,p,d,e,rfl,hR,hd,hm,hT,kk⟩:=eW h
 have C:=T.bC.cl
 refine⟨_,ai (aW (i:=1) yt.nd rfl (Or.inl rfl) (cq (pv 0) C T.bU.mt (gH T) (hr.mono (by omega)) T.bU.bd .nil au))
  (ai (a7 (kP T.DJ (aH (pv 1) rfl)) (ak (aK (bK (ae (aH (cq (pv 0) C T.cx.mt (iH T) (hr.mono (by omega)) T.cx.bd .nil au) rfl) ag)))) bj)
  (ai (a7 (PW.pt (iq (a4 b9 (aH (pv 1) rfl) aQ (aX _)) (iM (a4 b9 (aH (pv 1) rfl) aQ (aX _)))))
   (ak (aK (aS T.BS (EW T (n+1)) (hr.mono (by omega)) au (ae (pv 0) ag)))) bj)
  (ai (a7 (di (aV (pv 0) C T.dO.mt (iQ T) (hr.mono (by omega)) T.dO.bd .nil au (ae aQ ag))) (ak (aK (bK (ae aQ (ae ((aV (pv 0) C T.ir.mt (rW T) (hr.mono (by omega)) T.ir.bd .nil au (ae (bB T.C2) ag))) ag))))) bj)
  (ai (a7 (a4 b9 (aH (pv 1) rfl) (bB T.jj) (aX _)) (ak (aK (bK (ae ((aV (pv 0) C T.iF.mt (sv T) (hr.mono (by omega)) T.iF.bd .nil au (ae (bB T.vo) ag))) ag)))) bj)
  (ai (a0 (aV (pv 0) C T.ke.mt (xF T) (hr.mono (by omega)) T.ke.bd .nil au (ae aQ ag))) (ai (aW (i:=2) yt.nd rfl (Or.inl rfl) (aS T.tj F hr au (ae (pv 0) ag))) (ai (a0 (aV (pv 0) C T.kO.mt (xn T) (hr.mono (by omega)) T.kO.bd .nil au (ae aQ ag)))
  (ak (aK (bK (ae (eA T.uh.dU (Ln T) (hr.mono (by omega)) rfl T.uh.at_ T.Bg.2 .nil a3 (ae (pv 2) ag)) ag))))))))))),?_⟩
 refine⟨_,rfl,R.r,_,_,rfl,hR.ins,rfl,?_⟩
 refine mS (e:=e) hR hT (fun k pl hb=>.inl (DG hb d)) fun nb H1 x hR1 kp1 tk1=>?_
 have tk1':=tk1
 obtain⟨dt,ft,et,lt1,lt2,lt3,lt4,lt5⟩:=tk1
 have cl:=T.bo.cl
 refine⟨_,rfl,x,_,dt,ft,_,rfl,et,cl,T.bV,lt2,rfl,_,rfl,_,rfl,?_⟩
 rw[JV]
 -- a word's unit
 have uw:∀y,aj b p=.word y->gY d (aa b p e)=(LsWale.unitAt (aa b p e)>>=fun u=>.ok (LsWale.Items.one (aa b p e).place u.1,u.2)):=fun y hy=>by
  unfold gY
  rw[if_neg (by rw[fY,hy];simp)]
 refine aT (fun c=>?_) (fun c=>?_)
 ·have hy:=Mh c
  have e1:=uw _ hy
  rw[pY hy]at e1
  have hf:=y1 (gc (aj b p))
  rw[c]at hf
  obtain⟨j,hj⟩:=Option.isSome_iff_exists.mp hf
  rw[hj]at e1
  refine⟨_,rfl,R.r,_,_,rfl,hR1.ins,rfl,?_⟩
  refine iA hR1 nb fun H2 y hR2 kp2 tk2=>?_
  obtain⟨du,fu,eu,lu1,lu2,lu3,lu4,lu5⟩:=tk2
  rw[ny]at lu2
  refine⟨y,_,du,fu,_,rfl,eu,cl,T.bV,lu2,(by show 1<=sizeLine;decide),fun l hl=>?_⟩
  have kp:=kp1.trans kp2
  refine kk _ _ _ e1 _ _ (hR2.same (aP hl)) (kp.trans (bg (aP hl))) ((qC (bR _) hl (kp.grow hR2.cells)).unit fun r rest=>?_)
  show LsWale.unitText (.plain j)++_=_
  rw[show LsWale.unitText (.plain j)=gc (aj b p)from EC hj];rfl
 have nf:∀y,aj b p=.word y->(PLAINS.findIdx? fun z=>z==y)=none:=fun y hy=>by
  have hf:=y1 y
  rw[show PLAINS.contains y=false by rw[show y=gc (aj b p) by rw[hy];rfl];exact Bool.eq_false_iff.mpr c]at hf
  exact Option.not_isSome_iff_eq_none.mp (by rw[hf];decide)
 have cross:((aa b p e).isWord "cl"||(aa b p e).isWord "cr")=true->jr K a 9 (j8 (eJ a (n+1)) qD) oA [.ref R.r] H1 Q E:=fun cc=>by
  obtain⟨y,hy⟩:∃y,aj b p=.word y:=by
   rcases(Bool.or_eq_true _ _).mp cc with z|z
   ·rw[lj,decide_eq_true_eq]at z;exact⟨_,z⟩
   ·rw[lj,decide_eq_true_eq]at z;exact⟨_,z⟩
  have e1:=uw _ hy
  rw[pY hy,nf y hy]at e1
  dsimp only at e1
  rw[if_pos cc]at e1
  have e2:oA d (aa b p e)=some (LsWale.wideAt (aa b (ay b p) e)>>=fun n=>eatSign '/' n.2>>=fun t=>LsWale.wideAt t>>=fun m=>.ok (((aa b p e).isWord "cr",n.1,m.1),m.2)):=by
   unfold oA
   rw[if_pos cc,cE (tX cc)]
  refine vR hR1 hd (by omega) e2 hT (f:=fun x=>.ok (LsWale.Items.one (aa b p e).place (.cable x.1.1 x.1.2.1 x.1.2.2),x.2)) (by rw[e1];simp only[bL];rfl) (fun x s k pl hb=>c7 hb) fun x p2 e3 hS e4 H2 v2 hR2 kp2 md2=>?_
  exact kk _ _ _ e4 H2 v2 hR2 (kp1.trans kp2) (Md.unit (s:=qD x) (md2.old (kp1.grow hR1.cells)) fun r rest=>rfl)
 refine⟨_,rfl,x,_,dt,ft,_,rfl,et,cl,T.bV,lt2,rfl,_,rfl,?_⟩
 rw[cA,ff (c:="cl") e]
 refine aT (fun c1=>b5 ⟨_,rfl,cross (by rw[c1];rfl)⟩) (fun c1=>?_)
 refine⟨_,rfl,x,_,dt,ft,_,rfl,et,cl,T.bV,lt2,rfl,_,rfl,?_⟩
 rw[cA,ff (c:="cr") e]
 refine aT (fun c2=>⟨_,rfl,cross (by rw[c2,Bool.or_true])⟩) (fun c2=>?_)
 have ncc:¬((aa b p e).isWord "cl"||(aa b p e).isWord "cr")=true:=by rw[Bool.eq_false_iff.mpr c1,Bool.eq_false_iff.mpr c2];decide
 refine⟨_,rfl,R.r,_,_,rfl,hR1.ins,rfl,?_⟩
 refine nW (c:="hold") (e:=e) hR1 hT (fun k pl hb=>.inl (DG hb d)) (fun c3 H2 hR2 kp2=>?_) (fun c3 nb H2 hR2 kp2=>?_)
 ·have hy:aj b p=.word (ascii "hold"):=by rw[lj,decide_eq_true_eq]at c3;exact c3
  have e1:=uw _ hy
  rw[pY hy,nf _ hy]at e1
  dsimp only at e1
  rw[if_neg ncc,if_pos c3,bL]at e1
  refine⟨_,rfl,b5 ⟨_,rfl,R.r,_,_,rfl,hR2.ins,rfl,?_⟩⟩
  refine AZ hR2 hT e1 fun y hy H3 hR3 kp3=>⟨(by show 2<=sizeLine;decide),fun l hl=>?_⟩
  have kp:=(kp1.trans kp2).trans kp3
  refine kk _ _ _ hy _ _ (hR3.same (aP hl)) (kp.trans (bg (aP hl))) ?_
  rw[GH]
  exact(pC (bR _) (bR y) hl (kp.grow hR3.cells)).unit fun r rest=>rfl
 have tk2:=bT.keepR tk1' hR1 kp2
 obtain⟨du,fu,eu,lu1,lu2,lu3,lu4,lu5⟩:=tk2
 refine⟨_,rfl,df ⟨_,rfl,x,_,du,fu,_,rfl,eu,cl,T.j0,lu1,rfl,_,rfl,?_⟩⟩
 have c3':¬(aa b p e).isWord "hold"=true:=by rw[c3];decide
 rw[cA]
 refine aT (fun c4=>?_) (fun c4=>?_)
 ·obtain⟨y,hy⟩:=fT.mp (of_decide_eq_true c4)
  have hy':=(tq hy).1
  have e1:=uw _ hy'
  rw[pY hy',nf _ hy']at e1
  dsimp only at e1
  rw[if_neg ncc,if_neg c3',bL]at e1
  refine⟨_,rfl,R.r,_,_,rfl,hR2.ins,rfl,?_⟩
  refine rf (k:=.words) hR2 rfl hT e1 rfl fun y hy H3 hR3 kp3=>⟨(by show 1<=sizeLine;decide),fun l hl=>?_⟩
  have kp:=(kp1.trans kp2).trans kp3
  exact kk _ _ _ hy _ _ (hR3.same (aP hl)) (kp.trans (bg (aP hl))) ((qC (bR y) hl (kp.grow hR3.cells)).unit fun r rest=>rfl)
 have nn:nameAt b p=none:=by
  cases hx:nameAt b p with
  |none=>rfl
  |some x=>exact absurd (decide_eq_true (fT.mpr ⟨x,hx⟩)) c4
 have e1:gY d (aa b p e)=(eatOpen '(' d (aa b p e)>>=fun t=>cw (d+1) t>>=fun l=>eatSign ')' l.2>>=fun u=>.ok (LsWale.Items.group (aa b p e).place l.1,u)):=by
  unfold gY
  by_cases c5:(aa b p e).isSign '('=true
  ·rw[if_pos c5]
  ·rw[if_neg c5]
   have e3:LsWale.unitAt (aa b p e)=.error ⟨3,aM b p⟩:=by
    by_cases hw:∃y,aj b p=.word y
    ·obtain⟨y,hy⟩:=hw
     rw[pY hy,nf _ hy]
     dsimp only
     rw[if_neg ncc,if_neg c3']
     unfold oldName
     rw[any_none nn,eY nb];rfl
    ·unfold LsWale.unitAt
     rw[dJ]
     cases q:aj b p with
     |word y=>exact absurd ⟨y,q⟩ hw
     |_=>
      dsimp only
      exact eY nb
   rw[e3]
   unfold eatOpen
   rw[if_pos (Bool.eq_false_iff.mpr c5),eY nb];rfl
 refine⟨_,rfl,R.r,_,_,rfl,hR2.ins,rfl,?_⟩
 refine vY hR2 hd hT e1 fun e2 l8 hs H3 hR3 kp3=>⟨_,rfl,?_⟩
 refine bZ (m:=m) hR3 (by omega) (by omega) hT e2 (fun x s k pl hb=>xy hb) fun y p' e' hS e3 H4 v4 hR4 kp4 md4=>?_
 refine⟨_,rfl,R.r,_,_,rfl,hR4.ins,rfl,?_⟩
 refine v8 hR4 hT e3 fun e4 H5 hR5 kp5=>⟨_,rfl,fun x6 dx6 n6 nd6 ne6=>⟨x6,dx6,v4,rfl,az,fun H6 e6 kp6=>⟨rfl,(by show 1<=sizeLine;decide),fun l hl=>?_⟩⟩⟩
 have sm6:=aN.made n6 nd6 kp6
 have kp:=(((kp1.trans kp2).trans kp3).trans kp4).trans kp5
 have g5:=kp.grow hR5.cells
 have md5:=(md4.keep (Bw a n) hR3.cells kp5).old (((kp1.trans kp2).trans kp3).grow hR3.cells)
 obtain⟨F5,⟨ps,hps,eps⟩,s5⟩:=md5
 have mbr:=Md.br (cj a n) ⟨F5,hps,s5⟩ g5 sm6 n6 e6
 have g6:b8 H H6:=g5.trans (Ay sm6)
 refine kk _ _ _ e4 _ _ ((hR5.same sm6).same (aP hl)) ((kp.trans (bg sm6)).trans (bg (aP hl))) ?_
 refine(qC (s:=40::(dF ps++[41])) (mbr.map (r':=dM a (n+1)) fun F q=>Or.inr (Or.inr ⟨ps,q,rfl⟩)) hl g6).unit fun r rest=>?_
 rw[eps]
 show 40::(LsWale.itemsText y++41::(LsWale.reachText r++jt rest))=40::(LsWale.itemsText y++[41])++(LsWale.reachText r++jt rest)
 rw[List.cons_append,List.append_assoc];rfl
end Wale
end
section
set_option Elab.async false
set_option linter.all false
set_option maxRecDepth 100000
set_option maxHeartbeats 2000000
namespace Wale
open PySem PySem.Spec PyProof.Rows L2
open Wm
open LsWale (ascii Fault eatSign eatWord eatOpen anyName newName oldName markName holdName wanted isName PLAINS)
variable {P:Program}{w:World}{K:PySem.W.Frag}{mg:Str->Option Value}{base:Heap}{a:Ad}
theorem GX{b:Bytes}{p:Nat}(e:aA):dH (.str (bc (aj b p))) ((["take","yarn","mark","pass","clear","turn","fasten"]:List Str).map V.str)=(LsWale.loneAt (aa b p e)).isSome:=by
 rw[in_words (e:=e) ["take","yarn","mark","pass","clear","turn","fasten"] (by decide +kernel) (by decide +kernel)]
 unfold LsWale.loneAt
 simp only[List.any_cons,List.any_nil,Bool.or_false]
 by_cases h1:(aa b p e).isWord "take"=true
 ·simp[h1]
 by_cases h2:(aa b p e).isWord "yarn"=true
 ·simp[h1,h2]
 by_cases h3:(aa b p e).isWord "mark"=true
 ·simp[h1,h2,h3]
 by_cases h4:(aa b p e).isWord "pass"=true
 ·simp[h1,h2,h3,h4]
 by_cases h5:(aa b p e).isWord "clear"=true
 ·simp[h1,h2,h3,h4,h5]
 by_cases h6:(aa b p e).isWord "turn"=true
 ·simp[h1,h2,h3,h4,h5,h6]
 by_cases h7:(aa b p e).isWord "fasten"=true
 ·simp[h1,h2,h3,h4,h5,h6,h7]
 ·simp[h1,h2,h3,h4,h5,h6,h7]
theorem EF{d:Nat}{b:Bytes}{p:Nat}{e:aA}(h:(aa b p e).isWord "to"=true):iZ d (aa b p e)=fW d (aa b (ay b p) e):=by
 rw[tu,if_pos h,cE (jx h)]
 rfl
theorem HG{b:Bytes}{p:Nat}{e:aA}(h:(aa b p e).isWord "to"=true):(aa b p e).sums=false:=by
 rw[lj,decide_eq_true_eq]at h
 rw[tU,h]
 show isName (ascii "to")=false
 decide +kernel
theorem Iz{d:Nat}{s:ah}{g:Except Fault (LsWale.Lone×ah)}(h:LsWale.loneAt s=some g):eZ d s=g>>=fun y=>.ok (LsWale.Items.lone s.place y.1,y.2):=by
 unfold eZ fN
 rw[h]
 exact map_bind _ _
theorem BE{α:Type}{s:ah}{k pl d:Nat}{f:LsWale.Reach×ah->Except Fault (α×ah)}(h:HB s k pl)(hf:∀x,bF (f (x,s)) k pl):bF (iZ d s>>=f) k pl:=by rw[IW h];exact hf _
def Eo(a:Ad)(n:Nat):Rep Bytes:=fun H F v s=>∃ph,bQ a n H F v ph/\ph≠[]/\cF ph=s
def yC(a:Ad)(n:Nat):Rep (LsWale.Items->LsWale.Items):=fun H F v k=>∃s,Eo a n H F v s/\(∀rest,LsWale.itemsText (k rest)=s++jt rest)/\∀rest,k rest≠ .nil
theorem Md.item{n:Nat}{H0 H:Hp}{v:V}{ph:List Bytes}{k:LsWale.Items->LsWale.Items}(m:Md (bQ a n) H0 H v ph)(ne:ph≠[])(hn:∀rest,k rest≠ .nil)(h:∀rest,LsWale.itemsText (k rest)=cF ph++jt rest):Md (yC a n) H0 H v k:=m.map fun F q=>⟨cF ph,⟨ph,q,ne,rfl⟩,h,hn⟩
theorem eB{H0 H:Hp}{l:Addr}{vs:List V}{o:HO}(h0:H0 l=none)(e:H l=some (.lst vs)):da H0 H (upd H l o) l:=⟨fun b ob eb hb=>by rw[ao hb];exact eb,h0,.inl ⟨vs,e⟩,qG⟩
theorem ez{H:Hp}{l:Addr}{o:HO}(e:H l=some o):H l≠none:=by rw[e];exact fun z=>nomatch z
theorem Jg{d:Nat}{s t:ah}{x:LsWale.Reach}(h:fW d s=.ok (x,t)):LsWale.reachText x=32::(ascii "to"++32::CL x):=by
 unfold fW at h
 split at h
 ·cases h;rfl
 ·split at h
  ·obtain⟨y,_,h2⟩:=f9 h
   cases h2;rfl
  ·obtain⟨y,_,h2⟩:=f9 h
   obtain⟨z,_,h3⟩:=f9 h2
   cases h3;rfl
theorem Js:("to":Str)=strOf (ascii "to"):=by decide +kernel
theorem CS:aI ["reader","phrase"] ["reader"] (aD xX):=⟨rfl,rfl,rfl,by decide +kernel,rfl,by decide +kernel,by decide +kernel⟩
theorem Ed(T:Tx P w K mg a){k m n:Nat}(hk:40<=k)(F:cP P w K mg base a k a.mZ a.lY m (vP a n) gY):cP P w K mg base a (k+1) a.mx a.mm m (yC a n) eZ:=by
 refine aG.bq (k:=k) T.xt.fn CS eV (fun cdv A outer s H vs Q E hr h=>?_)
 obtain⟨b,R,p,d,e,rfl,hR,hd,hm,hT,kk⟩:=eW h
 have C:=T.bC.cl
 refine⟨_,ai (a7 (kP T.Kq (aH (cq (pv 0) C T.bU.mt (gH T) (hr.mono (by omega)) T.bU.bd .nil au) rfl)) (ak (aK (aS T.zp (Jw T n) (hr.mono (by omega)) au (ae (pv 0) ag)))) bj)
  (ai (aW (i:=1) CS.nd rfl (Or.inl rfl) (aS T.Cg F hr au (ae (pv 0) ag)))
  (ai (a7 (di (aS T.wo (B8 T) (hr.mono (by omega)) a3 (ae (cq (pv 0) C T.bU.mt (gH T) (hr.mono (by omega)) T.bU.bd .nil au) ag)))
   (ak (a0 ((dQ PySem.F.plainAttrs_list PySem.F.slot_list_append PySem.F.type_list_append fU (pv 1) (ae (aS T.iJ (i5 T 9) (hr.mono (by omega)) au (ae (pv 0) ag)) ag)))))
   (ak (a7 (di (aV (pv 0) C T.dO.mt (iQ T) (hr.mono (by omega)) T.dO.bd .nil au (ae aQ ag))) (ai (a0 ((dQ PySem.F.plainAttrs_list PySem.F.slot_list_append PySem.F.type_list_append fU (pv 1) (ae aQ ag)))) (ak (a0 ((dQ PySem.F.plainAttrs_list PySem.F.slot_list_extend PySem.F.type_list_extend nX (pv 1) (ae (aS T.DU (Kx T n) (hr.mono (by omega)) au (ae (pv 0) ag)) ag)))))) bj)))
  (ak (aK (pv 1))))),?_⟩
 have sz:sizeLine=16777216:=by decide
 refine uD (e:=e) T rfl hR hT (fun k pl hb=>.inl (zh hb d)) fun nb H1 hR1 kp1=>?_
 rw[GX e]
 cases hl:LsWale.loneAt (aa b p e)with
 |some g=>
  refine b5 ⟨_,rfl,?_⟩
  refine vR (S:=wY) hR1 hd (by omega) hl hT (Iz hl) (fun x s k pl hb=>c7 hb) fun x p2 e2 hS e3 H2 v2 hR2 kp2 md2=>kk _ _ _ e3 H2 v2 hR2 (kp1.trans kp2) ?_
  obtain⟨F2,⟨ph,hph,nph,lph,eph⟩,sn2⟩:=md2.old (kp1.grow hR1.cells)
  exact Md.item ⟨F2,hph,sn2⟩ nph (fun rest z=>by cases z) fun rest=>by
   rw[eph];rfl
 |none=>
  have e0:=Ip (d:=d) hl
  refine df ⟨_,rfl,?_⟩
  refine bZ hR1 hd hm hT e0 (fun x s k pl hb=>BE hb fun _=>c7 hb) fun u p2 e2 hS e3 H2 v2 hR2 kp2 md2=>?_
  obtain⟨F2,⟨s,⟨ph,hph,nph,lph,eph⟩,hs,hnn⟩,sn2⟩:=md2.old (kp1.grow hR1.cells)
  have mph:Md (bQ a n) H H2 v2 ph:=⟨F2,hph,sn2⟩
  obtain⟨l,rfl⟩:=mph.ref
  have kp02:=kp1.trans kp2
  refine⟨_,rfl,R.r,_,_,rfl,hR2.ins,rfl,?_⟩
  have hb2:∀k pl,HB (aa b p2 e2) k pl->bF (eZ d (aa b p e)) k pl:=fun k pl hb=>by rw[e3];exact BE hb fun _=>c7 hb
  refine mS (e:=e2) hR2 hT hb2 fun nb2 H3 x hR3 kp3 tk3=>?_
  have kp03:=kp02.trans kp3
  have mph3:=mph.keep (cz a n) hR.cells kp3
  obtain⟨hn,vs3,el3,hlen3⟩:=mph3.cell
  refine⟨b,p2,x,rfl,tk3,nb2,_,rfl,?_⟩
  rw[zJ b p2 .none_ e2]
  by_cases cs:(aa b p2 e2).sums=true
  ·rw[cs]
   have nt:¬(aa b p2 e2).isWord "to"=true:=fun z=>by rw[HG z]at cs;cases cs
   dsimp only at e3
   rw[tu,if_neg nt,if_pos cs,bL]at e3
   refine b5 ⟨_,rfl,.inl ⟨rfl,_,aO.of el3⟩,_,rfl,?_⟩
   refine bZ hR3 hd (by omega) hT e3 (fun x s k pl hb=>c7 hb) fun x p3 e4 hS' e5 H4 v4 hR4 kp4 md4=>?_
   have mph4:=mph3.keep (cz a n) hR.cells kp4
   obtain⟨_,vs4,el4,hlen4⟩:=mph4.cell
   have lc:da H H4 (upd H4 l (.lst (vs4++[v4]))) l:=eB hn el4
   refine⟨l,vs4,v4,rfl,rfl,el4,by omega,_,rfl,?_⟩
   refine kk _ _ _ e5 _ _ (hR4.bM hR lc) ((kp03.trans kp4).bM lc) ?_
   refine(mph4.append (cj a n) el4 (i3 md4) (ez el3) (kp03.grow hR3.cells)).item (by simp) (hnn _) fun rest=>?_
   rw[tm nph (by simp),eph,List.append_assoc]
   exact hs _ rest
  ·rw[Bool.eq_false_iff.mpr cs]
   refine df ⟨_,rfl,R.r,_,_,rfl,hR3.ins,rfl,?_⟩
   refine nW (c:="to") (e:=e2) hR3 hT hb2 (fun c H4 hR4 kp4=>?_) (fun c nb H4 hR4 kp4=>?_)
   ·dsimp only at e3
    rw[EF c]at e3
    have kp04:=kp03.trans kp4
    have mph4:=mph3.keep (cz a n) hR.cells kp4
    obtain⟨_,vs4,el4,hlen4⟩:=mph4.cell
    refine⟨_,rfl,b5 ⟨_,rfl,.inl ⟨rfl,_,aO.of el4⟩,l,vs4,_,rfl,rfl,el4,by omega,?_⟩⟩
    rw[Js]
    have lc:da H H4 (upd H4 l (.lst (vs4++[.str (strOf (ascii "to"))]))) l:=eB hn el4
    have mph5:=mph4.append (v:=.str (strOf (ascii "to"))) (H1:=H4) (cj a n) el4 (bR (ascii "to")) (ez el4) (kp04.grow hR4.cells)
    have hR5:=hR4.bM hR lc
    have kp05:=kp04.bM lc
    refine⟨_,rfl,.inl ⟨rfl,_,aO.of az⟩,_,rfl,?_⟩
    refine bZ hR5 hd (by omega) hT e3 (fun x s k pl hb=>c7 hb) fun x p3 e4 hS' e5 H6 v6 hR6 kp6 md6=>?_
    have mph6:=mph5.keep (cz a n) hR.cells kp6
    obtain⟨_,vs6,el6,hlen6⟩:=mph6.cell
    obtain⟨F6,⟨gp,hgp,ngp,lgp,egp⟩,sn6⟩:=md6
    have mgp:Md (bQ a n) _ H6 v6 gp:=⟨F6,hgp,sn6⟩
    obtain⟨l6,rfl⟩:=mgp.ref
    obtain⟨_,ws6,em6,hlem6⟩:=mgp.cell
    have lc6:da H H6 (upd H6 l (.lst (vs6++ws6))) l:=eB hn el6
    refine⟨l,l6,vs6,ws6,rfl,rfl,el6,em6,by rw[hlen6,List.length_append,List.length_singleton];omega,_,rfl,?_⟩
    refine kk _ _ _ e5 _ _ (hR6.bM hR lc6) ((kp05.trans kp6).bM lc6) ?_
    refine(mph6.extend (cj a n) el6 mgp em6 (ez az) (kp05.grow hR5.cells)).item (by simp) (hnn _) fun rest=>?_
    rw[tm (by simp) ngp,tm nph (by simp),eph,egp,hs x rest,Jg hS']
    simp only[List.append_assoc,List.cons_append]
    rfl
   ·dsimp only at e3
    rw[tu,if_neg (by rw[c];decide),if_neg cs]at e3
    refine⟨_,rfl,df ⟨_,rfl,kk _ _ _ e3 H4 _ hR4 (kp03.trans kp4) ?_⟩⟩
    exact(mph3.keep (cz a n) hR.cells kp4).item nph (hnn _) fun rest=>by rw[eph];exact hs .once rest
end Wale
end
section
set_option Elab.async false
set_option linter.all false
set_option maxRecDepth 100000
set_option maxHeartbeats 2000000
namespace Wale
open PySem PySem.Spec PyProof.Rows L2
open Wm
open LsWale (ascii Fault eatSign eatWord eatOpen anyName newName oldName markName holdName wanted isName PLAINS)
variable {P:Program}{w:World}{K:PySem.W.Frag}{mg:Str->Option Value}{base:Heap}{a:Ad}
theorem DK:aI ["reader","phrases"] ["reader"] (aD xS):=⟨rfl,rfl,rfl,by decide +kernel,rfl,by decide +kernel,by decide +kernel⟩
def jm(d:Nat)(F:LsWale.Items->LsWale.Items)(s:ah):Except Fault (LsWale.Items×ah):=if s.isSign ','=true then(cw d s.next>>=fun l=>.ok (F l.1,l.2))else .ok (F .nil,s)
theorem vt{s:ah}{k pl d:Nat}{F:LsWale.Items->LsWale.Items}(h:HB s k pl):bF (jm d F s) k pl:=by
 unfold jm
 rw[if_neg (by rw[fP h];decide)]
 exact c7 h
theorem Mw{b:Bytes}{p d:Nat}{e:aA}{F:LsWale.Items->LsWale.Items}(h:(aa b p e).isSign ','=true):jm d F (aa b p e)=eZ d (aa b (ay b p) e)>>=fun x=>jm d (F∘x.1) x.2:=by
 unfold jm
 rw[if_pos h,cE (gd h),ue,bL]
 congr 1
 funext x
 by_cases c:x.2.isSign ','=true
 ·rw[if_pos c,if_pos c,bL];rfl
 ·rw[if_neg c,if_neg c];rfl
theorem DF:∀(ps:List Bytes)(x:Bytes),ps≠[]->LsWale.commas (ps++[x])=LsWale.commas ps++(ascii ", "++x)
 |[],_,h=>absurd rfl h
 |[y],x,_=>rfl
 |y::z::r,x,_=>by
  show y++(ascii ", "++LsWale.commas ((z::r)++[x]))=(y++(ascii ", "++LsWale.commas (z::r)))++(ascii ", "++x)
  rw[DF (z::r) x (by simp)]
  simp only[List.append_assoc]
theorem EM{ps:List (List Bytes)}(ph:List Bytes)(h:ps≠[]):dF (ps++[ph])=dF ps++(ascii ", "++cF ph):=by
 unfold dF
 rw[List.map_append]
 exact DF _ _ (by cases ps with|nil=>exact absurd rfl h|cons _ _=>simp)
theorem EA{x:LsWale.Items}(h:x≠ .nil):jt x=ascii ", "++LsWale.itemsText x:=if_neg h
theorem EX(T:Tx P w K mg a){k m n:Nat}(hk:10<=k)(F:cP P w K mg base a k a.mx a.mm m (yC a n) eZ):cP P w K mg base a (k+1) a.jO a.jJ m (oI a n) cw:=by
 refine aG.bq (k:=k) T.tj.fn DK eV (fun cdv A outer s H vs Q E hr h=>?_)
 obtain⟨b,R,p,d,e,rfl,hR,hd,hm,hT,kk⟩:=eW h
 have C:=T.bC.cl
 have G:=cz a n
 refine⟨_,ai (aW (i:=1) DK.nd rfl (Or.inl rfl) (bK (ae (aS T.xt F hr au (ae (pv 0) ag)) ag)))
  (ai (fD gW (di (aV (pv 0) C T.dO.mt (iQ T) (hr.mono (by omega)) T.dO.bd .nil au (ae aQ ag))) (ak (a0 ((dQ PySem.F.plainAttrs_list PySem.F.slot_list_append PySem.F.type_list_append fU (pv 1) (ae (aS T.xt F hr au (ae (pv 0) ag)) ag))))))
  (ak (aK (eA T.kN.dU (xm T) (hr.mono (by omega)) rfl T.kN.at_ T.sW.2 .nil a3 (ae (pv 1) ag))))),?_⟩
 refine⟨_,rfl,?_⟩
 have e0:cw d (aa b p e)=eZ d (aa b p e)>>=fun x=>jm d x.1 x.2:=ue d _
 refine bZ hR hd hm hT e0 (fun x s k pl hb=>vt hb) fun x p1 e1 hS h1 H1 v1 hR1 kp1 md1=>⟨(by show 1<=sizeLine;decide),fun l hl=>?_⟩
 obtain⟨F1,⟨s1,⟨ph,hph,nph,eph⟩,hs,hnn⟩,sn1⟩:=md1
 have ml:=aE.list G (aE.cons G ⟨F1,hph,sn1⟩ aE.nil) hl (kp1.grow hR1.cells)
 let I:(LsWale.Items->LsWale.Items)×Nat×aA->L2.St->Hp->Prop:=fun i σ H'=>σ=[some (.ref R.r),some (.ref l)]/\aq a K b R i.2.1 d (lst i.2.2) H'/\aC R H H'/\cw d (aa b p e)=jm d i.1 (aa b i.2.1 i.2.2)/\
  ∃pss,Md (cI (bQ a n)) H H' (.ref l) pss/\pss≠[]/\(∀rest,LsWale.itemsText (i.1 rest)=dF pss++jt rest)/\pss.length+(toks b i.2.1).length<=(toks b p).length
 let μ:(LsWale.Items->LsWale.Items)×Nat×aA->Nat:=fun i=>(toks b i.2.1).length
 have l1:=lh (uL d _) hS
 refine fG I μ (x,p1,e1) ⟨rfl,hR1.same (aP hl),kp1.trans (bg (aP hl)),h1,[ph],ml,by simp,fun rest=>?_,?_⟩ ?_
 ·show _=cF ph++_
  rw[eph];exact hs rest
 ·show 1+(toks b p1).length<=_
  omega
 rintro⟨x,p1,e1⟩ σ H2 ⟨rfl,hR2,kp2,h2,pss,ms,ne,tx,ln⟩
 dsimp only at hR2 h2 tx ln
 refine⟨_,rfl,R.r,_,_,rfl,hR2.ins,rfl,?_⟩
 refine vZ (c:=',') (e:=e1) hR2 hT (fun k pl hb=>by rw[h2];exact vt hb) (fun c H3 hR3 kp3=>?_) (fun c nb H3 hR3 kp3=>?_)
 ·rw[Mw c]at h2
  have ms3:=ms.keep (bW G) hR.cells kp3
  obtain⟨hn,vs3,el3,hlen3⟩:=ms3.cell
  refine⟨_,rfl,b5 ?_⟩
  refine fg (I:=I) (μ:=μ) (i:=(x,p1,e1)) ?_
  refine⟨_,rfl,.inl ⟨rfl,_,aO.of el3⟩,_,rfl,?_⟩
  refine bZ hR3 hd hm hT h2 (fun x s k pl hb=>vt hb) fun x' p2 e2 hS2 h3 H4 v4 hR4 kp4 md4=>?_
  have ms4:=ms3.keep (bW G) hR.cells kp4
  obtain⟨_,vs4,el4,hlen4⟩:=ms4.cell
  obtain⟨F4,⟨s4,⟨ph4,hph4,nph4,eph4⟩,hs4,hnn4⟩,sn4⟩:=md4
  have lc:da H H4 (upd H4 l (.lst (vs4++[v4]))) l:=eB hn el4
  have sz:=oN hR.len p
  have l2:=lh (uL d _) hS2
  have l3:=lC (gd c)
  refine⟨l,vs4,v4,rfl,rfl,el4,by omega,(x∘x',p2,e2),?_,rfl,hR4.bM hR lc,((kp2.trans kp3).trans kp4).bM lc,h3,pss++[ph4],ms4.append G el4 ⟨F4,hph4,sn4⟩ (ez el3) ((kp2.trans kp3).grow hR3.cells),by simp,fun rest=>?_,?_⟩
  ·show(toks b p2).length<(toks b p1).length
   omega
  ·show LsWale.itemsText (x (x' rest))=_
   rw[tx,EA (hnn4 rest),hs4,EM ph4 ne,eph4]
   simp only[List.append_assoc]
  ·show(pss++[ph4]).length+(toks b p2).length<=_
   rw[List.length_append,List.length_singleton];omega
 ·have h2':cw d (aa b p e)=.ok (x .nil,aa b p1 e1):=by
   rw[h2];unfold jm;rw[if_neg (by rw[c];decide)]
  have ms3:=ms.keep (bW G) hR.cells kp3
  refine⟨_,rfl,df ⟨_,rfl,fun x6 dx6 n6 nd6 ne6=>⟨x6,dx6,.ref l,rfl,az,fun H6 e6 kp6=>⟨rfl,?_⟩⟩⟩⟩
  have sm6:=aN.made n6 nd6 kp6
  refine kk _ _ _ h2' H6 _ (hR3.same sm6) ((kp2.trans kp3).trans (bg sm6)) ?_
  refine(Md.listed (cj a n) ms3 ((kp2.trans kp3).grow hR3.cells) sm6 n6 e6).map fun F q=>⟨pss,q,?_⟩
  rw[tx .nil]
  show _=dF pss++[]
  rw[List.append_nil]
theorem wL(T:Tx P w K mg a):∀m,cP P w K mg base a (40+3*m) a.jO a.jJ m (oI a m) cw
 |0=>x5
 |m+1=>EX T (k:=40+3*m+1+1) (by omega) (Ed T (by omega) (Hf T (wL T m)))
end Wale
end
section
set_option Elab.async false
set_option linter.all false
set_option maxRecDepth 100000
set_option maxHeartbeats 2000000
namespace Wale
open PySem PySem.Spec PyProof.Rows L2
open Wm
open LsWale (ascii Fault eatSign eatWord eatOpen anyName newName oldName markName holdName wanted isName PLAINS)
variable {P:Program}{w:World}{K:PySem.W.Frag}{mg:Str->Option Value}{base:Heap}{a:Ad}
def dE(l:List Bytes):Bytes:=l.flatMap fun x=>x++[10]
theorem rJ(x y:List Bytes):dE (x++y)=dE x++dE y:=by unfold dE;rw[List.flatMap_append]
def Lg(ph:List Bytes)(f:Nat->List Bytes):Prop:=∀d,f d=[LsWale.indent d++(cF ph++[59])]
def Fj(ph:List Bytes)(fs:List (Nat->List Bytes))(f:Nat->List Bytes):Prop:=∀d,f d=(LsWale.indent d++(cF ph++ascii " {"))::(fs.flatMap (fun g=>g (d+1))++[LsWale.indent d++[125]])
def rg(a:Ad):Rep (Nat->List Bytes):=fun H F v f=>∃(c dx:Addr)(pv:V)(ph:List Bytes),v=.ref c/\F c/\H c=some (.ins a.dG dx [("phrase",pv),("body",.aw)])/\bQ a 10 H F pv ph/\Lg ph f
def C9(a:Ad)(r:Rep (Nat->List Bytes)):Rep (Nat->List Bytes):=fun H F v f=>∃(c dx:Addr)(pv bv:V)(ph:List Bytes)(fs:List (Nat->List Bytes)),v=.ref c/\F c/\H c=some (.ins a.dG dx [("phrase",pv),("body",bv)])/\bQ a 10 H F pv ph/\cI r H F bv fs/\Fj ph fs f
def eM(a:Ad):Nat->Rep (Nat->List Bytes)
 |0=>rg a
 |n+1=>fun H F v f=>rg a H F v f\/C9 a (eM a n) H F v f
theorem vS(a:Ad):Good (rg a) where
 frame:=by
  rintro H H' F v x ⟨c,dx,pv,ph,rfl,h1,h2,h3,h4⟩ e
  exact⟨c,dx,pv,ph,rfl,h1,by rw[e c h1];exact h2,(cz a 10).frame h3 e,h4⟩
 mono:=by
  rintro H F F' v x ⟨c,dx,pv,ph,rfl,h1,h2,h3,h4⟩ m
  exact⟨c,dx,pv,ph,rfl,m c h1,h2,(cz a 10).mono h3 m,h4⟩
theorem zV{r:Rep (Nat->List Bytes)}(G:Good r):Good (C9 a r) where
 frame:=by
  rintro H H' F v x ⟨c,dx,pv,bv,ph,fs,rfl,h1,h2,h3,h4,h5⟩ e
  exact⟨c,dx,pv,bv,ph,fs,rfl,h1,by rw[e c h1];exact h2,(cz a 10).frame h3 e,(bW G).frame h4 e,h5⟩
 mono:=by
  rintro H F F' v x ⟨c,dx,pv,bv,ph,fs,rfl,h1,h2,h3,h4,h5⟩ m
  exact⟨c,dx,pv,bv,ph,fs,rfl,m c h1,h2,(cz a 10).mono h3 m,(bW G).mono h4 m,h5⟩
theorem iS(a:Ad):∀n,Good (eM a n)
 |0=>vS a
 |n+1=>⟨fun h e=>h.elim (fun z=>.inl ((vS a).frame z e)) fun z=>.inr ((zV (iS a n)).frame z e),fun h m=>h.elim (fun z=>.inl ((vS a).mono z m)) fun z=>.inr ((zV (iS a n)).mono z m)⟩
theorem Lo(n:Nat){H:Hp}{F:Fp}{v:V}{f:Nat->List Bytes}(h:rg a H F v f):eM a n H F v f:=by
 cases n with
 |zero=>exact h
 |succ n=>exact .inl h
def kH(a:Ad)(n:Nat):Rep LsWale.Stats:=fun H F v st=>∃fs,cI (eM a n) H F v fs/\(∀d,dE (fs.flatMap fun f=>f d)=LsWale.statsText d st)/\fs.length<=20001
def zR(a:Ad)(n:Nat):Rep (LsWale.Stats->LsWale.Stats):=fun H F v k=>∃f,eM a n H F v f/\∀d r,LsWale.statsText d (k r)=dE (f d)++LsWale.statsText d r
theorem xN(a:Ad)(n:Nat):Good (kH a n):=⟨fun⟨fs,h,q⟩e=>⟨fs,(bW (iS a n)).frame h e,q⟩,fun⟨fs,h,q⟩m=>⟨fs,(bW (iS a n)).mono h m,q⟩⟩
theorem Md.um{n:Nat}{H0 H H':Hp}{u:V}{ph:List Bytes}{x dx:Addr}(m:Md (bQ a 10) H0 H u ph)(g:b8 H0 H)(s:aN H H')(nx:H x=none)(e:H' x=some (.ins a.dG dx [("phrase",u),("body",.aw)])):Md (eM a n) H0 H' (.ref x) (fun d=>[LsWale.indent d++(cF ph++[59])]):=by
 obtain⟨F,h,sn⟩:=m.same (cz a 10) s
 refine⟨fun b=>b=x\/F b,Lo n ⟨x,dx,u,ph,rfl,.inl rfl,e,(cz a 10).mono h fun b hb=>.inr hb,fun d=>rfl⟩,fun b hb=>?_⟩
 rcases hb with rfl|hb
 ·exact⟨g.none nx,_,e⟩
 ·exact sn b hb
theorem Md.B6{n:Nat}{H0 H H':Hp}{u t:V}{ph:List Bytes}{fs:List (Nat->List Bytes)}{x dx:Addr}(m:Md (bQ a 10) H0 H u ph)(mb:Md (cI (eM a n)) H0 H t fs)(g:b8 H0 H)(s:aN H H')(nx:H x=none)(e:H' x=some (.ins a.dG dx [("phrase",u),("body",t)])):
  Md (eM a (n+1)) H0 H' (.ref x) (fun d=>(LsWale.indent d++(cF ph++ascii " {"))::(fs.flatMap (fun g=>g (d+1))++[LsWale.indent d++[125]])):=by
 obtain⟨F,h,sn⟩:=m.same (cz a 10) s
 obtain⟨F2,h2,sn2⟩:=mb.same (bW (iS a n)) s
 refine⟨fun b=>b=x\/F b\/F2 b,Or.inr ⟨x,dx,u,t,ph,fs,rfl,.inl rfl,e,(cz a 10).mono h fun b hb=>.inr (.inl hb),(bW (iS a n)).mono h2 fun b hb=>.inr (.inr hb),fun d=>rfl⟩,fun b hb=>?_⟩
 rcases hb with rfl|hb|hb
 ·exact⟨g.none nx,_,e⟩
 ·exact sn b hb
 ·exact sn2 b hb
def ug(d:Nat)(s:ah):Except Fault ((ba×Bool)×ah):=a6 .sum d s>>=fun x=>.ok ((x.1,x.2.isWord "round"),if x.2.isWord "round"=true then x.2.next else x.2)
def JR(x:ba×Bool):Bytes:=LsWale.sumText x.1++(if x.2=true then ascii " round" else[])
theorem J1:("round":Str)=strOf (ascii "round"):=by decide +kernel
theorem ze:aI ["reader","phrase"] ["reader"] (aD wK):=⟨rfl,rfl,rfl,by decide +kernel,rfl,by decide +kernel,by decide +kernel⟩
theorem Gr(T:Tx P w K mg a)(N:Nat):cP P w K mg base a 38 a.om a.qx 9 (j8 (eJ a N) JR) ug:=by
 refine aG.bq (k:=37) T.Ck.fn ze eV (fun cdv A outer s H vs Q E hr h=>?_)
 obtain⟨b,R,p,d,e,rfl,hR,hd,hm,hT,kk⟩:=eW h
 have C:=T.bC.cl
 have G:=cj a N
 refine⟨_,ai (aW (i:=1) ze.nd rfl (Or.inl rfl) (bK (ae (aS T.iJ (i5 T 9) hr au (ae (pv 0) ag)) ag)))
  (ai (a7 (di (aV (pv 0) C T.dO.mt (iQ T) (hr.mono (by omega)) T.dO.bd .nil au (ae aQ ag))) (ak (a0 ((dQ PySem.F.plainAttrs_list PySem.F.slot_list_append PySem.F.type_list_append fU (pv 1) (ae aQ ag))))) bj) (ak (aK (pv 1)))),?_⟩
 refine⟨_,rfl,?_⟩
 refine bZ hR hd hm hT rfl (fun x s k pl hb=>by dsimp only;rw[if_neg (by rw[gg hb];decide)];exact c7 hb) fun x p1 e1 hS h1 H1 v1 hR1 kp1 md1=>⟨(by show 1<=sizeLine;decide),fun l hl=>?_⟩
 dsimp only at h1
 have ml:Md (bQ a N) H _ (.ref l) [LsWale.sumText x]:=aE.list G (aE.cons G (i3 md1) aE.nil) hl (kp1.grow hR1.cells)
 have hR2:=hR1.same (aP (o:=.lst [v1]) hl)
 have kp2:=kp1.trans (bg (aP (o:=.lst [v1]) hl))
 refine⟨_,rfl,R.r,_,_,rfl,hR2.ins,rfl,?_⟩
 refine nW (c:="round") (e:=e1) hR2 hT (fun k pl hb=>by rw[h1,if_neg (by rw[gg hb];decide)];exact c7 hb) (fun c H3 hR3 kp3=>?_) (fun c nb H3 hR3 kp3=>?_)
 ·rw[if_pos c,cE (jx c),c]at h1
  have ml3:=ml.keep (cz a N) hR.cells kp3
  obtain⟨hn,vs3,el3,hlen3⟩:=ml3.cell
  have lc:da H H3 (upd H3 l (.lst (vs3++[.str (strOf (ascii "round"))]))) l:=eB hn el3
  refine⟨_,rfl,b5 ⟨_,rfl,.inl ⟨rfl,_,aO.of el3⟩,l,vs3,_,rfl,rfl,el3,(by rw[hlen3];show 1<sizeLine;decide),?_⟩⟩
  rw[J1]
  refine⟨_,rfl,kk _ _ _ h1 _ _ (hR3.bM hR lc) ((kp2.trans kp3).bM lc) ?_⟩
  refine(ml3.append G el3 (bR (H0:=H3) (ascii "round")) (ez el3) ((kp2.trans kp3).grow hR3.cells)).map fun F q=>⟨_,q,by simp,(by show 2<=4;decide),?_⟩
  rfl
 ·rw[if_neg (by rw[c];decide),c]at h1
  refine⟨_,rfl,df ⟨_,rfl,kk _ _ _ h1 H3 _ hR3 (kp2.trans kp3) ?_⟩⟩
  refine(ml.keep (cz a N) hR.cells kp3).map fun F q=>⟨_,q,by simp,(by show 1<=4;decide),?_⟩
  show LsWale.sumText x=LsWale.sumText x++[]
  rw[List.append_nil]
def iB(s:ah):Option Bool:=if s.isWord "rs"=true then some true else if s.isWord "ws"=true then some false else none
def gj(d:Nat)(s:ah):Except Fault ((Option Bool×LsWale.Items)×ah):=cw d (if(s.isWord "rs"||s.isWord "ws")=true then s.next else s)>>=fun x=>.ok ((iB s,x.1),x.2)
def kS(x:Option Bool×LsWale.Items):Bytes:=(match x.1 with|some true=>ascii "rs "|some false=>ascii "ws "|none=>[])++LsWale.itemsText x.2
theorem Ie{s:ah}{k pl:Nat}(h:HB s k pl)(d:Nat):gj d s=.error ⟨k,pl⟩:=by
 unfold gj
 rw[if_neg (by rw[gg h,gg h];decide),KW h];rfl
theorem KO(d:Nat)(s:ah){α:Type}(f:LsWale.Items×ah->Except Fault α):(cw d (rowAt s)>>=f)=gj d s.next>>=fun x=>f (x.1.2,x.2):=by
 unfold gj
 rw[bL]
 have:rowAt s=if(s.next.isWord "rs"||s.next.isWord "ws")=true then s.next.next else s.next:=by
  unfold rowAt mq
  by_cases h1:s.next.isWord "rs"=true
  ·rw[if_pos h1,h1];rfl
  ·rw[if_neg h1,Bool.eq_false_iff.mpr h1,Bool.false_or]
   by_cases h2:s.next.isWord "ws"=true
   ·rw[if_pos h2,if_pos h2];rfl
   ·rw[if_neg h2,if_neg h2];rfl
 rw[this];rfl
theorem Cw:aI ["reader","phrase"] ["reader"] (aD ui):=⟨rfl,rfl,rfl,by decide +kernel,rfl,by decide +kernel,by decide +kernel⟩
theorem Me{b:Bytes}{p:Nat}(e:aA):dH (.str (bc (aj b p))) [.str "rs",.str "ws"]=((aa b p e).isWord "rs"||(aa b p e).isWord "ws"):=by
 have h:=in_words (b:=b) (p:=p) (e:=e) ["rs","ws"] (l:=["rs","ws"]) (by decide +kernel) (by decide +kernel)
 rw[show(["rs","ws"].any fun c=>(aa b p e).isWord c)=((aa b p e).isWord "rs"||((aa b p e).isWord "ws"||false))from rfl,Bool.or_false]at h
 exact h
theorem IT{α:Type}(r:Except Fault α):r=r>>=fun x=>.ok x:=by cases r<;>rfl
theorem Md.wR{n:Nat}{H0 H:Hp}{v:V}{x:LsWale.Items}(m:Md (oI a n) H0 H v x):Md (dM a (n+1)) H0 H v (LsWale.itemsText x):=m.map fun F⟨ps,q,e⟩=>Or.inr (Or.inl ⟨ps,q,e.symm⟩)
theorem G8(T:Tx P w K mg a):cP P w K mg base a 68 a.ou a.nL 9 (j8 (eJ a 10) kS) gj:=by
 refine aG.bq (k:=67) T.zD.fn Cw eV (fun cdv A outer s H vs Q E hr h=>?_)
 obtain⟨b,R,p,d,e,rfl,hR,hd,hm,hT,kk⟩:=eW h
 have C:=T.bC.cl
 have G:=cj a 10
 refine⟨_,ai (aW (i:=1) Cw.nd rfl (Or.inl rfl) (bK ag))
  (ai (a7 (a4 pJ (aH (cq (pv 0) C T.bU.mt (gH T) (hr.mono (by omega)) T.bU.bd .nil au) rfl) (jT (ae aQ (ae aQ ag))) (by rfl)) (ak (a0 ((dQ PySem.F.plainAttrs_list PySem.F.slot_list_append PySem.F.type_list_append fU (pv 1) (ae (aH (cq (pv 0) C T.cx.mt (iH T) (hr.mono (by omega)) T.cx.bd .nil au) rfl) ag))))) bj)
  (ai (a0 ((dQ PySem.F.plainAttrs_list PySem.F.slot_list_append PySem.F.type_list_append fU (pv 1) (ae (aS T.tj (wL T 9) hr au (ae (pv 0) ag)) ag)))) (ak (aK (pv 1))))),?_⟩
 refine⟨(by show 0<=sizeLine;decide),fun l hl=>?_⟩
 have ml:Md (bQ a 10) H _ (.ref l) []:=aE.list G aE.nil hl (b8.refl _)
 have hR0:=hR.same (aP (o:=.lst []) hl)
 have kp0:aC R H (upd H l (.lst [])):=bg (aP hl)
 refine uJ (e:=e) T rfl hR0 hT (fun k pl hb=>.inl (Ie hb d)) fun nb H1 hR1 kp1=>?_
 have kp01:=kp0.trans kp1
 have ml1:=ml.keep (cz a 10) hR.cells kp1
 obtain⟨hn,vs1,el1,hlen1⟩:=ml1.cell
 cases vs1 with
 |cons _ _=>cases hlen1
 |nil=>
 rw[Me e]
 refine aT (fun c=>?_) (fun c=>?_)
 ·have e1:gj d (aa b p e)=cw d (aa b (ay b p) e)>>=fun x=>.ok ((iB (aa b p e),x.1),x.2):=by
   unfold gj
   rw[if_pos c,cE (tX c)]
  refine⟨_,rfl,.inl ⟨rfl,_,aO.of el1⟩,_,rfl,R.r,_,_,rfl,hR1.ins,rfl,?_⟩
  refine iA hR1 nb fun H2 y hR2 kp2 tk2=>?_
  obtain⟨dt,ft,et,lt1,lt2,lt3,lt4,lt5⟩:=tk2
  have kp02:=kp01.trans kp2
  have ml2:=ml1.keep (cz a 10) hR.cells kp2
  obtain⟨_,vs2,el2,hlen2⟩:=ml2.cell
  have hw:∃wd:Bytes,bc (aj b p)=strOf wd/\∀it,kS (iB (aa b p e),it)=wd++32::LsWale.itemsText it:=by
   by_cases c1:(aa b p e).isWord "rs"=true
   ·exact⟨ascii "rs",fO c1,fun it=>by unfold kS iB;rw[if_pos c1];rfl⟩
   ·exact⟨ascii "ws",fO (((Bool.or_eq_true _ _).mp c).resolve_left c1),fun it=>by unfold kS iB;rw[if_neg c1,if_pos (((Bool.or_eq_true _ _).mp c).resolve_left c1)];rfl⟩
  obtain⟨wd,hwd,hrow⟩:=hw
  rw[hwd]at lt2
  refine⟨y,_,dt,ft,_,rfl,et,T.bo.cl,T.bV,lt2,l,vs2,_,rfl,rfl,el2,(by rw[hlen2];show 0<sizeLine;decide),?_⟩
  have lc:da H H2 (upd H2 l (.lst (vs2++[.str (strOf wd)]))) l:=eB hn el2
  have ml3:=ml2.append G el2 (bR (H0:=H2) wd) (ez el2) (kp02.grow hR2.cells)
  have hR3:=hR2.bM hR lc
  have kp03:=kp02.bM lc
  refine⟨_,rfl,.inl ⟨rfl,_,aO.of az⟩,_,rfl,?_⟩
  refine bZ hR3 hd hm hT e1 (fun x s k pl hb=>c7 hb) fun x p3 e3 hS e4 H4 v4 hR4 kp4 md4=>?_
  have ml4:=ml3.keep (cz a 10) hR.cells kp4
  obtain⟨_,vs4,el4,hlen4⟩:=ml4.cell
  have lc4:da H H4 (upd H4 l (.lst (vs4++[v4]))) l:=eB hn el4
  refine⟨l,vs4,v4,rfl,rfl,el4,(by rw[hlen4];show 1<sizeLine;decide),_,rfl,kk _ _ _ e4 _ _ (hR4.bM hR lc4) ((kp03.trans kp4).bM lc4) ?_⟩
  refine(ml4.append G el4 md4.wR (ez az) (kp03.grow hR3.cells)).map fun F q=>⟨_,q,by simp,(by show 2<=4;decide),?_⟩
  exact(hrow x).symm
 ·have e1:gj d (aa b p e)=cw d (aa b p e)>>=fun x=>.ok ((iB (aa b p e),x.1),x.2):=by
   unfold gj
   rw[if_neg c]
  have c':=Bool.eq_false_iff.mpr c
  rw[Bool.or_eq_false_iff]at c'
  refine⟨_,rfl,.inl ⟨rfl,_,aO.of el1⟩,_,rfl,?_⟩
  refine bZ hR1 hd hm hT e1 (fun x s k pl hb=>c7 hb) fun x p3 e3 hS e4 H4 v4 hR4 kp4 md4=>?_
  have ml4:=ml1.keep (cz a 10) hR.cells kp4
  obtain⟨_,vs4,el4,hlen4⟩:=ml4.cell
  have lc4:da H H4 (upd H4 l (.lst (vs4++[v4]))) l:=eB hn el4
  refine⟨l,vs4,v4,rfl,rfl,el4,(by rw[hlen4];show 0<sizeLine;decide),_,rfl,kk _ _ _ e4 _ _ (hR4.bM hR lc4) ((kp01.trans kp4).bM lc4) ?_⟩
  refine(ml4.append G el4 md4.wR (ez el1) (kp01.grow hR1.cells)).map fun F q=>⟨_,q,by simp,(by show 1<=4;decide),?_⟩
  show LsWale.itemsText x=kS (iB (aa b p e),x)
  unfold kS iB
  rw[if_neg (by rw[c'.1];decide),if_neg (by rw[c'.2];decide)]
  rfl
def sk(d:Nat)(s:ah):Except Fault ((Bytes×Option LsWale.Sum)×ah):=oldName s.env.blocks s>>=fun x=>if x.2.sums=true then(a6 .sum d x.2>>=fun y=>.ok ((x.1,some y.1),y.2))else .ok ((x.1,none),x.2)
def Gp(x:Bytes×Option LsWale.Sum):Bytes:=x.1++(match x.2 with|some y=>32::LsWale.sumText y|none=>[])
theorem BK:aI ["reader","phrase"] ["reader"] (aD wq):=⟨rfl,rfl,rfl,by decide +kernel,rfl,by decide +kernel,by decide +kernel⟩
theorem KJ(T:Tx P w K mg a)(N:Nat):cP P w K mg base a 38 a.pR a.qh 9 (j8 (eJ a N) Gp) sk:=by
 refine aG.bq (k:=37) T.yW.fn BK eV (fun cdv A outer s H vs Q E hr h=>?_)
 obtain⟨b,R,p,d,e,rfl,hR,hd,hm,hT,kk⟩:=eW h
 have C:=T.bC.cl
 have G:=cj a N
 refine⟨_,ai (aW (i:=1) BK.nd rfl (Or.inl rfl) (bK (ae ((aV (pv 0) C T.iF.mt (sv T) (hr.mono (by omega)) T.iF.bd .nil au (ae (bB T.yx) ag))) ag)))
  (ai (a7 (di (aS T.wo (B8 T) (hr.mono (by omega)) a3 (ae (cq (pv 0) C T.bU.mt (gH T) (hr.mono (by omega)) T.bU.bd .nil au) ag))) (ak (a0 ((dQ PySem.F.plainAttrs_list PySem.F.slot_list_append PySem.F.type_list_append fU (pv 1) (ae (aS T.iJ (i5 T 9) (hr.mono (by omega)) au (ae (pv 0) ag)) ag))))) bj)
  (ak (aK (pv 1)))),?_⟩
 refine⟨_,rfl,R.r,_,_,rfl,hR.ins,rfl,?_⟩
 refine rf (k:=.blocks) hR rfl hT rfl rfl fun y hy H1 hR1 kp1=>⟨(by show 1<=sizeLine;decide),fun l hl=>?_⟩
 dsimp only at hy
 have ml:Md (bQ a N) H _ (.ref l) [y]:=aE.list G (aE.cons G (bR (H0:=H) (H:=H1) y) aE.nil) hl (kp1.grow hR1.cells)
 have hR1':=hR1.same (aP (o:=.lst [.str (strOf y)]) hl)
 have kp1':=kp1.trans (bg (aP (o:=.lst [.str (strOf y)]) hl))
 refine⟨_,rfl,R.r,_,_,rfl,hR1'.ins,rfl,?_⟩
 have hb1:∀k pl,HB (aa b (ay b p) e) k pl->bF (sk d (aa b p e)) k pl:=fun k pl hb=>by
  rw[hy,if_neg (by rw[Cb hb];decide)]
  exact c7 hb
 refine mS (e:=e) hR1' hT hb1 fun nb2 H2 x hR2 kp2 tk2=>?_
 have kp02:=kp1'.trans kp2
 have ml2:=ml.keep (cz a N) hR.cells kp2
 obtain⟨hn,vs2,el2,hlen2⟩:=ml2.cell
 refine⟨b,_,x,rfl,tk2,nb2,_,rfl,?_⟩
 rw[zJ b _ .none_ e]
 refine aT (fun c=>?_) (fun c=>?_)
 ·rw[if_pos c]at hy
  refine⟨_,rfl,.inl ⟨rfl,_,aO.of el2⟩,_,rfl,?_⟩
  refine bZ hR2 hd hm hT hy (fun x s k pl hb=>c7 hb) fun x p3 e3 hS e4 H3 v3 hR3 kp3 md3=>?_
  have ml3:=ml2.keep (cz a N) hR.cells kp3
  obtain⟨_,vs3,el3,hlen3⟩:=ml3.cell
  have lc:da H H3 (upd H3 l (.lst (vs3++[v3]))) l:=eB hn el3
  refine⟨l,vs3,v3,rfl,rfl,el3,(by rw[hlen3];show 1<sizeLine;decide),_,rfl,kk _ _ _ e4 _ _ (hR3.bM hR lc) ((kp02.trans kp3).bM lc) ?_⟩
  exact(ml3.append G el3 (i3 md3) (ez el2) (kp02.grow hR2.cells)).map fun F q=>⟨_,q,by simp,(by show 2<=4;decide),rfl⟩
 ·rw[if_neg c]at hy
  refine⟨_,rfl,kk _ _ _ hy H2 _ hR2 kp02 ?_⟩
  refine ml2.map fun F q=>⟨_,q,by simp,(by show 1<=4;decide),?_⟩
  show y=y++[]
  rw[List.append_nil]
def gL(d:Nat)(s:ah):Except Fault (LsWale.Stats×ah):=eatOpen '{' d s>>=fun t=>cD (d+1) t>>=fun i=>eatSign '}' i.2>>=fun u=>.ok (i.1,u)
theorem Dm{s:ah}{k pl:Nat}(h:HB s k pl)(d:Nat):gL d s=.error ⟨k,pl⟩:=by
 unfold gL
 rw[vF h];rfl
theorem Bq:aI ["reader","stats"] ["reader"] (aD vX):=⟨rfl,rfl,rfl,by decide +kernel,rfl,by decide +kernel,by decide +kernel⟩
theorem y6(T:Tx P w K mg a){k m n:Nat}(hk:10<=k)(F:cP P w K mg base a k a.kK a.jV m (kH a n) cD):cP P w K mg base a (k+1) a.ng a.lH (m+1) (kH a n) gL:=by
 refine aG.bq (k:=k) T.xT.fn Bq eV (fun cdv A outer s H vs Q E hr h=>?_)
 obtain⟨b,R,p,d,e,rfl,hR,hd,hm,hT,kk⟩:=eW h
 have C:=T.bC.cl
 refine⟨_,ai (a0 (aV (pv 0) C T.ke.mt (xF T) (hr.mono (by omega)) T.ke.bd .nil au (ae aQ ag))) (ai (aW (i:=1) Bq.nd rfl (Or.inl rfl) (aS T.uR F hr au (ae (pv 0) ag))) (ai (a0 (aV (pv 0) C T.kO.mt (xn T) (hr.mono (by omega)) T.kO.bd .nil au (ae aQ ag))) (ak (aK (pv 1))))),?_⟩
 refine⟨_,rfl,R.r,_,_,rfl,hR.ins,rfl,?_⟩
 refine vY hR hd hT rfl fun e2 l8 hs H3 hR3 kp3=>⟨_,rfl,?_⟩
 refine bZ (m:=m) hR3 (by omega) (by omega) hT e2 (fun x s k pl hb=>xy hb) fun y p' e' hS e3 H4 v4 hR4 kp4 md4=>?_
 refine⟨_,rfl,R.r,_,_,rfl,hR4.ins,rfl,?_⟩
 exact v8 hR4 hT e3 fun e4 H5 hR5 kp5=>⟨_,rfl,kk _ _ _ e4 H5 v4 hR5 ((kp3.trans kp4).trans kp5) ((md4.keep (xN a n) hR3.cells kp5).old (kp3.grow hR3.cells))⟩
end Wale
end
section
set_option Elab.async false
set_option linter.all false
set_option maxRecDepth 100000
set_option maxHeartbeats 2000000
namespace Wale
open PySem PySem.Spec PyProof.Rows L2
open Wm
open LsWale (ascii Fault eatSign eatWord eatOpen anyName newName oldName markName holdName wanted isName PLAINS)
variable {P:Program}{w:World}{K:PySem.W.Frag}{mg:Str->Option Value}{base:Heap}{a:Ad}
theorem F9{b:Bytes}{p d:Nat}{e:aA}{g:Except Fault ((LsWale.Stats->LsWale.Stats)×ah)}(h:dS d (aa b p e)=some g):cv (aj b p)=true:=by
 by_cases c:cv (aj b p)=true
 ·exact c
 ·unfold dS eR at h
  simp only[w9 c]at h
  cases h
theorem sy:aI ["reader","word","phrase"] ["reader"] (aD xG):=⟨rfl,rfl,rfl,by decide +kernel,rfl,by decide +kernel,by decide +kernel⟩
theorem Hy(dd p:Nat)(sd:Option Bool)(it:LsWale.Items)(r:LsWale.Stats):LsWale.statsText dd (.row p sd it r)=LsWale.line dd ((ascii "row"++32::kS (sd,it))++[59])++LsWale.statsText dd r:=by
 cases sd with
 |none=>
  show LsWale.line dd (ascii "row "++(LsWale.itemsText it++[59]))++_=LsWale.line dd ((ascii "row"++32::LsWale.itemsText it)++[59])++_
  rw[show ascii "row "=ascii "row"++[32]from rfl]
  simp only[List.append_assoc,List.cons_append,List.nil_append]
 |some t=>
  cases t with
  |true=>
   show LsWale.line dd (ascii "row rs "++(LsWale.itemsText it++[59]))++_=LsWale.line dd ((ascii "row"++32::(ascii "rs "++LsWale.itemsText it))++[59])++_
   rw[show ascii "row rs "=ascii "row"++32::ascii "rs " from rfl]
   simp only[List.append_assoc,List.cons_append,List.nil_append]
  |false=>
   show LsWale.line dd (ascii "row ws "++(LsWale.itemsText it++[59]))++_=LsWale.line dd ((ascii "row"++32::(ascii "ws "++LsWale.itemsText it))++[59])++_
   rw[show ascii "row ws "=ascii "row"++32::ascii "ws " from rfl]
   simp only[List.append_assoc,List.cons_append,List.nil_append]
theorem Ce(d:Nat)(w x:Bytes)(fs:List (Nat->List Bytes))(i r:LsWale.Stats)(h:dE (fs.flatMap fun f=>f (d+1))=LsWale.statsText (d+1) i):
  LsWale.line d (w++32::(x++ascii " {"))++(LsWale.statsText (d+1) i++(LsWale.line d [125]++LsWale.statsText d r))=
   dE ((LsWale.indent d++(cF [w,x]++ascii " {"))::(fs.flatMap (fun g=>g (d+1))++[LsWale.indent d++[125]]))++LsWale.statsText d r:=by
 rw[<-h]
 show _=((LsWale.indent d++(cF [w,x]++ascii " {"))++[10]++dE (fs.flatMap (fun g=>g (d+1))++[LsWale.indent d++[125]]))++LsWale.statsText d r
 rw[rJ]
 show _=((LsWale.indent d++((w++32::x)++ascii " {"))++[10]++(dE (fs.flatMap fun g=>g (d+1))++((LsWale.indent d++[125])++[10]++[])))++LsWale.statsText d r
 unfold LsWale.line
 simp only[List.append_assoc,List.cons_append,List.nil_append,List.append_nil]
theorem Jx(T:Tx P w K mg a){k m n:Nat}(hk:68<=k)(F:cP P w K mg base a k a.ng a.lH m (kH a n) gL):sP P w K mg base a (k+1) a.kX a.nh m (zR a (n+1)) dS:=by
 refine aG.bq (k:=k) T.AU.fn sy uA (fun cdv A outer s H vs Q E hr h=>?_)
 obtain⟨b,R,p,d,e,g,rfl,hR,hd,hm,hg,hT,kk⟩:=xU h
 have C:=T.bC.cl
 have G:=cj a 10
 have GP:=cz a 10
 have hr37:bp (10+3*9) _:=hr.mono (by omega)
 refine⟨_,ai (aW (i:=1) sy.nd rfl (Or.inl rfl) (aH (cq (pv 0) C T.cx.mt (iH T) (hr.mono (by omega)) T.cx.bd .nil au) rfl))
  (ai (a7 (PW.pt (iq (a4 b9 (pv 1) aQ (aX _)) (iM (a4 b9 (pv 1) aQ (aX _)))))
   (ai (aW (i:=2) sy.nd rfl (Or.inl rfl) (bK (ae (pv 1) (ae (aS T.iJ (i5 T 9) hr37 au (ae (pv 0) ag)) ag))))
   (ak (aK (eA T.dC.dU (je T) (hr.mono (by omega)) rfl T.dC.at_ T.hZ.2 .nil a3 (ae (pv 2) (ae (aS T.xT F hr au (ae (pv 0) ag)) ag)))))) bj)
  (ai (aW (i:=2) sy.nd rfl (Or.inl rfl) (bK (ae (pv 1) ag)))
  (ai (a7 (a4 b9 (pv 1) aQ (aX _)) (ak (a0 ((dQ PySem.F.plainAttrs_list PySem.F.slot_list_extend PySem.F.type_list_extend nX (pv 2) (ae (aS T.Ck (Gr T 10) (hr.mono (by omega)) au (ae (pv 0) ag)) ag)))))
   (ak (a7 (a4 b9 (pv 1) aQ (aX _)) (ak (a0 ((dQ PySem.F.plainAttrs_list PySem.F.slot_list_extend PySem.F.type_list_extend nX (pv 2) (ae (aS T.zD (G8 T) (hr.mono (by omega)) au (ae (pv 0) ag)) ag)))))
    (ak (a7 (a4 b9 (pv 1) aQ (aX _)) (ak (a0 ((dQ PySem.F.plainAttrs_list PySem.F.slot_list_extend PySem.F.type_list_extend nX (pv 2) (ae (aS T.yW (KJ T 10) (hr.mono (by omega)) au (ae (pv 0) ag)) ag))))) bj)))))
  (ai (a0 (aV (pv 0) C T.cH.mt (gR T) (hr.mono (by omega)) T.cH.bd .nil au (ae aQ ag))) (ak (aK (eA T.dC.dU (je T) (hr.mono (by omega)) rfl T.dC.at_ T.hZ.2 .nil a3 (ae (pv 2) (ae iu ag))))))))),?_⟩
 have ht:=F9 hg
 refine⟨_,rfl,R.r,_,_,rfl,hR.ins,rfl,?_⟩
 refine iA hR (sT ht) fun H1 x hR1 kp1 tk1=>?_
 obtain⟨dt,ft,et,lt1,lt2,lt3,lt4,lt5⟩:=tk1
 refine⟨x,_,dt,ft,_,rfl,et,T.bo.cl,T.bV,lt2,_,rfl,rfl,_,rfl,?_⟩
 unfold dS eR at hg
 rw[KO,cE ht]at hg
 have again:∀c:((aa b p e).isWord "repeat"||(aa b p e).isWord "until")=true,g=a6 .sum d (aa b (ay b p) e)>>=fun x=>gL d x.2>>=fun i=>.ok (fun r=>if(aa b p e).isWord "repeat"=true then .again (aa b p e).place x.1 i.1 r else .until_ (aa b p e).place x.1 i.1 r,i.2):=fun c=>by
  have n1:¬(aa b p e).isWord "on"=true:=fun z=>by
   rw[lL z (y:="repeat") (by decide +kernel),lL z (y:="until") (by decide +kernel)]at c;cases c
  have n2:¬(aa b p e).isWord "row"=true:=fun z=>by
   rw[lL z (y:="repeat") (by decide +kernel),lL z (y:="until") (by decide +kernel)]at c;cases c
  rw[if_neg n1,if_neg n2,if_pos c]at hg
  rw[<-Option.some.inj hg]
  unfold gL
  simp only[bL]
  rfl
 -- the end of repeat and until
 have endB:∀{wd:Bytes}{x:ba}{i:LsWale.Stats}{H4 H6:Hp}{l x6 dx6:Addr}{v4:V}{p4:Nat}{e4:aA},Md (bQ a 10) H H4 (.ref l) [wd,LsWale.sumText x]->Md (kH a n) H H4 v4 i->aq a K b R p4 d (lst e4) H4->aC R H H4->aN H4 H6->H4 x6=none->
   H6 x6=some (.ins a.dG dx6 [("phrase",.ref l),("body",v4)])->∀kf:LsWale.Stats->LsWale.Stats,g=.ok (kf,aa b p4 e4)->(∀dd r,LsWale.statsText dd (kf r)=LsWale.line dd (wd++32::(LsWale.sumText x++ascii " {"))++(LsWale.statsText (dd+1) i++(LsWale.line dd [125]++LsWale.statsText dd r)))->Q (.ref x6) H6:=
  fun{wd x i H4 H6 l x6 dx6 v4 p4 e4}mp mb hR4 kp4 sm6 n6 e6 kf hk tx=>by
  obtain⟨F4,⟨fs,hfs,efs,-⟩,s4⟩:=mb
  refine kk _ _ _ hk H6 _ (hR4.same sm6) (kp4.trans (bg sm6)) ?_
  refine(Md.B6 mp ⟨F4,hfs,s4⟩ (kp4.grow hR4.cells) sm6 n6 e6).map fun F q=>⟨_,q,fun dd r=>?_⟩
  rw[tx,Ce dd wd _ fs i r (efs (dd+1))]
 -- the end of the others
 have end0:∀{ph:List Bytes}{H4 H6:Hp}{l x6 dx6:Addr}{p4:Nat}{e4:aA},Md (bQ a 10) H H4 (.ref l) ph->aq a K b R p4 d (lst e4) H4->aC R H H4->aN H4 H6->H4 x6=none->
   H6 x6=some (.ins a.dG dx6 [("phrase",.ref l),("body",.aw)])->∀kf:LsWale.Stats->LsWale.Stats,g=.ok (kf,aa b p4 e4)->(∀dd r,LsWale.statsText dd (kf r)=LsWale.line dd (cF ph++[59])++LsWale.statsText dd r)->Q (.ref x6) H6:=
  fun{ph H4 H6 l x6 dx6 p4 e4}mp hR4 kp4 sm6 n6 e6 kf hk tx=>by
  refine kk _ _ _ hk H6 _ (hR4.same sm6) (kp4.trans (bg sm6)) ?_
  refine(Md.um (n:=n+1) mp (kp4.grow hR4.cells) sm6 n6 e6).map fun F q=>⟨_,q,fun dd r=>?_⟩
  rw[tx]
  show _=((LsWale.indent dd++(cF ph++[59]))++[10]++[])++_
  unfold LsWale.line
  simp only[List.append_assoc,List.nil_append,List.append_nil]
 rw[cA,ff (c:="repeat") e]
 refine aT (fun c=>?_) (fun c=>?_)
 ·have cc:((aa b p e).isWord "repeat"||(aa b p e).isWord "until")=true:=by rw[c];rfl
  refine b5 ⟨_,rfl,_,rfl,?_⟩
  refine bZ hR1 hd (by omega) hT (again cc) (fun x s k pl hb=>by rw[Dm hb];exact .inl rfl) fun x p2 e2 hS e3 H2 v2 hR2 kp2 md2=>⟨(by show 2<=sizeLine;decide),fun l hl=>?_⟩
  have kp02:=kp1.trans kp2
  rw[fO c]
  have mp:Md (bQ a 10) H _ (.ref l) [ascii "repeat",LsWale.sumText x]:=aE.list G (aE.cons G (bR (H0:=H) (H:=H2) (ascii "repeat")) (aE.cons G (i3 (md2.old (kp1.grow hR1.cells))) aE.nil)) hl (kp02.grow hR2.cells)
  have hR3:=hR2.same (aP (o:=.lst [.str (strOf (ascii "repeat")),v2]) hl)
  have kp03:=kp02.trans (bg (aP (o:=.lst [.str (strOf (ascii "repeat")),v2]) hl))
  refine⟨_,rfl,_,rfl,?_⟩
  refine bZ hR3 hd hm hT e3 (fun x s k pl hb=>c7 hb) fun i p4 e4 hS4 e5 H4 v4 hR4 kp4 md4=>fun x6 dx6 n6 nd6 ne6=>⟨x6,dx6,.ref l,v4,rfl,az,fun H6 e6 kp6=>⟨rfl,?_⟩⟩
  refine endB (mp.keep GP hR.cells kp4) (md4.old (kp03.grow hR3.cells)) hR4 (kp03.trans kp4) (aN.made n6 nd6 kp6) n6 e6 _ e5 fun dd r=>?_
  dsimp only
  rw[if_pos c]
  rfl
 refine⟨_,rfl,rfl,_,rfl,?_⟩
 rw[cA,ff (c:="until") e]
 refine aT (fun c1=>?_) (fun c1=>?_)
 ·have cc:((aa b p e).isWord "repeat"||(aa b p e).isWord "until")=true:=by rw[c1,Bool.or_true]
  refine⟨_,rfl,_,rfl,?_⟩
  refine bZ hR1 hd (by omega) hT (again cc) (fun x s k pl hb=>by rw[Dm hb];exact .inl rfl) fun x p2 e2 hS e3 H2 v2 hR2 kp2 md2=>⟨(by show 2<=sizeLine;decide),fun l hl=>?_⟩
  have kp02:=kp1.trans kp2
  rw[fO c1]
  have mp:Md (bQ a 10) H _ (.ref l) [ascii "until",LsWale.sumText x]:=aE.list G (aE.cons G (bR (H0:=H) (H:=H2) (ascii "until")) (aE.cons G (i3 (md2.old (kp1.grow hR1.cells))) aE.nil)) hl (kp02.grow hR2.cells)
  have hR3:=hR2.same (aP (o:=.lst [.str (strOf (ascii "until")),v2]) hl)
  have kp03:=kp02.trans (bg (aP (o:=.lst [.str (strOf (ascii "until")),v2]) hl))
  refine⟨_,rfl,_,rfl,?_⟩
  refine bZ hR3 hd hm hT e3 (fun x s k pl hb=>c7 hb) fun i p4 e4 hS4 e5 H4 v4 hR4 kp4 md4=>fun x6 dx6 n6 nd6 ne6=>⟨x6,dx6,.ref l,v4,rfl,az,fun H6 e6 kp6=>⟨rfl,?_⟩⟩
  refine endB (mp.keep GP hR.cells kp4) (md4.old (kp03.grow hR3.cells)) hR4 (kp03.trans kp4) (aN.made n6 nd6 kp6) n6 e6 _ e5 fun dd r=>?_
  dsimp only
  rw[if_neg c]
  rfl
 have nru:¬((aa b p e).isWord "repeat"||(aa b p e).isWord "until")=true:=by rw[Bool.eq_false_iff.mpr c,Bool.eq_false_iff.mpr c1];decide
 refine⟨_,rfl,(by show 1<=sizeLine;decide),fun l hl=>?_⟩
 have hR2:=hR1.same (aP (o:=.lst [.str (bc (aj b p))]) hl)
 have kp02:=kp1.trans (bg (aP (o:=.lst [.str (bc (aj b p))]) hl))
 have g02:=kp02.grow hR2.cells
 have mp:∀{wd:Bytes},bc (aj b p)=strOf wd->Md (bQ a 10) H (upd H1 l (.lst [.str (bc (aj b p))])) (.ref l) [wd]:=fun{wd}hw=>by
  rw[hw]
  exact aE.list G (aE.cons G (bR (H0:=H) (H:=H1) wd) aE.nil) hl (kp1.grow hR1.cells)
 have hl0:H l=none:=(kp1.grow hR1.cells).none hl
 -- extend,and what it makes
 have ext:∀{wd:Bytes}{H3:Hp}{v3:V}{t:Bytes}{p3:Nat}{e3:aA},bc (aj b p)=strOf wd->aq a K b R p3 d (lst e3) H3->aC R (upd H1 l (.lst [.str (bc (aj b p))])) H3->Md (eJ a 10) (upd H1 l (.lst [.str (bc (aj b p))])) H3 v3 t->
   ∃l3 vs3 ws3,v3=.ref l3/\H3 l=some (.lst vs3)/\H3 l3=some (.lst ws3)/\vs3.length+ws3.length<=sizeLine/\∃ph,cF ph=wd++32::t/\Md (bQ a 10) H (upd H3 l (.lst (vs3++ws3))) (.ref l) ph/\aq a K b R p3 d (lst e3) (upd H3 l (.lst (vs3++ws3)))/\aC R H (upd H3 l (.lst (vs3++ws3))):=
  fun{wd H3 v3 t p3 e3}hw hR3 kp3 md3=>by
  obtain⟨F3,⟨gp,hgp,ngp,lgp,egp⟩,sn3⟩:=md3
  have mgp:Md (bQ a 10) _ H3 v3 gp:=⟨F3,hgp,sn3⟩
  obtain⟨l3,rfl⟩:=mgp.ref
  obtain⟨_,ws3,em3,hlem3⟩:=mgp.cell
  have mp3:=(mp hw).keep GP hR.cells kp3
  obtain⟨_,vs3,el3,hlen3⟩:=mp3.cell
  have lc:da H H3 (upd H3 l (.lst (vs3++ws3))) l:=eB hl0 el3
  refine⟨l3,vs3,ws3,rfl,el3,em3,?_,[wd]++gp,?_,mp3.extend G el3 mgp em3 (ez az) g02,hR3.bM hR lc,(kp02.trans kp3).bM lc⟩
  ·have sz:sizeLine=16777216:=by decide
   rw[hlen3,hlem3]
   show 1+gp.length<=_
   omega
  ·rw[tm (by simp) ngp,egp];rfl
 refine⟨_,rfl,rfl,_,rfl,?_⟩
 rw[cA,ff (c:="on") e]
 refine aT (fun c2=>?_) (fun c2=>?_)
 ·rw[if_pos c2]at hg
  have e1:g=ug d (aa b (ay b p) e)>>=fun x=>eatSign ';' x.2>>=fun t=>.ok (.on (aa b p e).place x.1.1 x.1.2,t):=by
   rw[<-Option.some.inj hg]
   unfold ug
   rw[bL]
   rfl
  refine⟨_,rfl,.inl ⟨rfl,_,aO.of az⟩,_,rfl,?_⟩
  refine bZ hR2 hd (by omega) hT e1 (fun x s k pl hb=>kF hb) fun y p3 e3 hS e4 H3 v3 hR3 kp3 md3=>?_
  obtain⟨l3,vs3,ws3,rfl,el3,em3,hz,ph,eph,mp4,hR4,kp4⟩:=ext (fO c2) hR3 kp3 md3
  refine⟨l,l3,vs3,ws3,rfl,rfl,el3,em3,hz,_,rfl,R.r,_,_,rfl,hR4.ins,rfl,?_⟩
  refine gy hR4 hT e4 (k:=fun e5 H5 y5 hR5 kp5 tk5=>⟨_,rfl,fun x6 dx6 n6 nd6 ne6=>⟨x6,dx6,.ref l,.aw,rfl,az,fun H6 e6 kp6=>⟨rfl,?_⟩⟩⟩)
  refine end0 (mp4.keep GP hR.cells kp5) hR5 (kp4.trans kp5) (aN.made n6 nd6 kp6) n6 e6 _ e5 fun dd r=>?_
  rw[eph]
  show LsWale.line dd (ascii "on "++(LsWale.sumText y.1++((if y.2=true then ascii " round" else[])++[59])))++_=LsWale.line dd ((ascii "on"++32::(LsWale.sumText y.1++(if y.2=true then ascii " round" else[])))++[59])++_
  rw[show ascii "on "=ascii "on"++[32]from rfl]
  simp only[List.append_assoc,List.cons_append,List.nil_append]
 rw[if_neg c2]at hg
 refine⟨_,rfl,rfl,_,rfl,?_⟩
 rw[cA,ff (c:="row") e]
 refine aT (fun c3=>?_) (fun c3=>?_)
 ·rw[if_pos c3]at hg
  have e1:g=gj d (aa b (ay b p) e)>>=fun x=>eatSign ';' x.2>>=fun t=>.ok (.row (aa b p e).place (mq (aa b p e)) x.1.2,t):=(Option.some.inj hg).symm
  refine⟨_,rfl,.inl ⟨rfl,_,aO.of az⟩,_,rfl,?_⟩
  refine bZ hR2 hd (by omega) hT e1 (fun x s k pl hb=>kF hb) fun y p3 e3 hS e4 H3 v3 hR3 kp3 md3=>?_
  obtain⟨l3,vs3,ws3,rfl,el3,em3,hz,ph,eph,mp4,hR4,kp4⟩:=ext (fO c3) hR3 kp3 md3
  refine⟨l,l3,vs3,ws3,rfl,rfl,el3,em3,hz,_,rfl,R.r,_,_,rfl,hR4.ins,rfl,?_⟩
  refine gy hR4 hT e4 (k:=fun e5 H5 y5 hR5 kp5 tk5=>⟨_,rfl,fun x6 dx6 n6 nd6 ne6=>⟨x6,dx6,.ref l,.aw,rfl,az,fun H6 e6 kp6=>⟨rfl,?_⟩⟩⟩)
  refine end0 (mp4.keep GP hR.cells kp5) hR5 (kp4.trans kp5) (aN.made n6 nd6 kp6) n6 e6 _ e5 fun dd r=>?_
  rw[eph]
  have hside:mq (aa b p e)=y.1:=by
   unfold gj at hS
   obtain⟨z,_,hz2⟩:=f9 hS
   have hz3:=(Prod.mk.inj (Except.ok.inj hz2)).1
   rw[<-hz3]
   unfold mq iB
   rw[cE ht]
  rw[hside]
  obtain⟨sd,it⟩:=y
  exact Hy dd _ sd it r
 rw[if_neg c3,if_neg nru]at hg
 refine⟨_,rfl,rfl,_,rfl,?_⟩
 rw[cA,ff (c:="work") e]
 refine aT (fun c4=>?_) (fun c4=>?_)
 ·rw[if_pos c4]at hg
  have e1:g=sk d (aa b (ay b p) e)>>=fun x=>eatSign ';' x.2>>=fun t=>.ok (.work (aa b p e).place x.1.1 x.1.2,t):=by
   rw[<-Option.some.inj hg]
   unfold sk
   rw[bL]
   refine aY rfl fun x s hx=>?_
   dsimp only
   by_cases c5:s.sums=true
   ·rw[if_pos c5,if_pos c5,bL];rfl
   ·rw[if_neg c5,if_neg c5];rfl
  refine⟨_,rfl,.inl ⟨rfl,_,aO.of az⟩,_,rfl,?_⟩
  refine bZ hR2 hd (by omega) hT e1 (fun x s k pl hb=>kF hb) fun y p3 e3 hS e4 H3 v3 hR3 kp3 md3=>?_
  obtain⟨l3,vs3,ws3,rfl,el3,em3,hz,ph,eph,mp4,hR4,kp4⟩:=ext (fO c4) hR3 kp3 md3
  refine⟨l,l3,vs3,ws3,rfl,rfl,el3,em3,hz,_,rfl,R.r,_,_,rfl,hR4.ins,rfl,?_⟩
  refine gy hR4 hT e4 (k:=fun e5 H5 y5 hR5 kp5 tk5=>⟨_,rfl,fun x6 dx6 n6 nd6 ne6=>⟨x6,dx6,.ref l,.aw,rfl,az,fun H6 e6 kp6=>⟨rfl,?_⟩⟩⟩)
  refine end0 (mp4.keep GP hR.cells kp5) hR5 (kp4.trans kp5) (aN.made n6 nd6 kp6) n6 e6 _ e5 fun dd r=>?_
  rw[eph]
  show LsWale.line dd (ascii "work "++(y.1++((match y.2 with|some x=>32::LsWale.sumText x|none=>[])++[59])))++_=LsWale.line dd ((ascii "work"++32::(y.1++(match y.2 with|some x=>32::LsWale.sumText x|none=>[])))++[59])++_
  rw[show ascii "work "=ascii "work"++[32]from rfl]
  simp only[List.append_assoc,List.cons_append,List.nil_append]
 rw[if_neg c4]at hg
 by_cases c5:(aa b p e).isWord "off"=true
 ·rw[if_pos c5]at hg
  have e1:=(Option.some.inj hg).symm
  refine⟨_,rfl,R.r,_,_,rfl,hR2.ins,rfl,?_⟩
  refine gy hR2 hT e1 (k:=fun e5 H5 y5 hR5 kp5 tk5=>⟨_,rfl,fun x6 dx6 n6 nd6 ne6=>⟨x6,dx6,.ref l,.aw,rfl,az,fun H6 e6 kp6=>⟨rfl,?_⟩⟩⟩)
  exact end0 ((mp (fO c5)).keep GP hR.cells kp5) hR5 (kp02.trans kp5) (aN.made n6 nd6 kp6) n6 e6 _ e5 fun dd r=>rfl
 ·rw[if_neg c5]at hg
  cases hg
end Wale
end
section
set_option Elab.async false
set_option linter.all false
set_option maxRecDepth 100000
set_option maxHeartbeats 2000000
namespace Wale
open PySem PySem.Spec PyProof.Rows L2
open Wm
open LsWale (ascii Fault eatSign eatWord eatOpen anyName newName oldName markName holdName wanted isName PLAINS)
variable {P:Program}{w:World}{K:PySem.W.Frag}{mg:Str->Option Value}{base:Heap}{a:Ad}
theorem Ey{b:Bytes}{p:Nat}(d:Nat)(e:aA):dH (.str (bc (aj b p))) ((["on","row","repeat","until","work","off"]:List Str).map V.str)=(dS d (aa b p e)).isSome:=by
 rw[in_words (e:=e) ["on","row","repeat","until","work","off"] (by decide +kernel) (by decide +kernel)]
 unfold dS eR
 simp only[List.any_cons,List.any_nil,Bool.or_false]
 by_cases h1:(aa b p e).isWord "on"=true
 ·simp[h1]
 by_cases h2:(aa b p e).isWord "row"=true
 ·simp[h1,h2]
 by_cases h3:(aa b p e).isWord "repeat"=true
 ·simp[h1,h2,h3]
 by_cases h4:(aa b p e).isWord "until"=true
 ·simp[h1,h2,h3,h4]
 by_cases h5:(aa b p e).isWord "work"=true
 ·simp[h1,h2,h3,h4,h5]
 by_cases h6:(aa b p e).isWord "off"=true
 ·simp[h1,h2,h3,h4,h5,h6]
 ·simp[h1,h2,h3,h4,h5,h6]
theorem zN:aI ["reader","stats"] ["reader"] (aD wI):=⟨rfl,rfl,rfl,by decide +kernel,rfl,by decide +kernel,by decide +kernel⟩
def ij(d:Nat)(F:LsWale.Stats->LsWale.Stats)(s:ah):Except Fault (LsWale.Stats×ah):=cD d s>>=fun r=>.ok (F r.1,r.2)
theorem y2{s:ah}{k pl d:Nat}{F:LsWale.Stats->LsWale.Stats}(h:HB s k pl):bF (ij d F s) k pl:=by
 unfold ij
 rw[BG h]
 exact c7 h
theorem Lv{d:Nat}{F:LsWale.Stats->LsWale.Stats}{s:ah}{g:Except Fault ((LsWale.Stats->LsWale.Stats)×ah)}(h:dS d s=some g):ij d F s=g>>=fun x=>ij d (F∘x.1) x.2:=by
 unfold ij
 rw[uS,h]
 dsimp only
 simp only[bL]
 rfl
theorem GN{d:Nat}{F:LsWale.Stats->LsWale.Stats}{s:ah}(h:dS d s=none):ij d F s=.ok (F .nil,s):=by
 unfold ij
 rw[uS,h]
 rfl
theorem HV(T:Tx P w K mg a){k m n:Nat}(hk:10<=k)(F:sP P w K mg base a k a.kX a.nh m (zR a n) dS):cP P w K mg base a (k+1) a.kK a.jV m (kH a n) cD:=by
 refine aG.bq (k:=k) T.uR.fn zN eV (fun cdv A outer s H vs Q E hr h=>?_)
 obtain⟨b,R,p,d,e,rfl,hR,hd,hm,hT,kk⟩:=eW h
 have C:=T.bC.cl
 have G:=iS a n
 refine⟨_,ai (aW (i:=1) zN.nd rfl (Or.inl rfl) (bK ag)) (ai (fD gW (kP T.Hr (aH (cq (pv 0) C T.bU.mt (gH T) (hr.mono (by omega)) T.bU.bd .nil au) rfl)) (ak (a0 ((dQ PySem.F.plainAttrs_list PySem.F.slot_list_append PySem.F.type_list_append fU (pv 1) (ae (aS T.AU F hr au (ae (pv 0) ag)) ag)))))) (ak (aK (pv 1)))),?_⟩
 refine⟨(by show 0<=sizeLine;decide),fun l hl=>?_⟩
 have ml:Md (cI (eM a n)) H _ (.ref l) []:=aE.list G aE.nil hl (b8.refl _)
 let I:(LsWale.Stats->LsWale.Stats)×Nat×aA->L2.St->Hp->Prop:=fun i σ H'=>σ=[some (.ref R.r),some (.ref l)]/\aq a K b R i.2.1 d (lst i.2.2) H'/\aC R H H'/\cD d (aa b p e)=ij d i.1 (aa b i.2.1 i.2.2)/\
  ∃fs,Md (cI (eM a n)) H H' (.ref l) fs/\(∀dd r,LsWale.statsText dd (i.1 r)=dE (fs.flatMap fun f=>f dd)++LsWale.statsText dd r)/\fs.length+(toks b i.2.1).length<=(toks b p).length
 let μ:(LsWale.Stats->LsWale.Stats)×Nat×aA->Nat:=fun i=>(toks b i.2.1).length
 refine fG I μ (id,p,e) ⟨rfl,hR.same (aP hl),bg (aP hl),(by unfold ij;exact IT _),[],ml,fun dd r=>rfl,?_⟩ ?_
 ·show 0+(toks b p).length<=(toks b p).length
  omega
 rintro⟨x,p1,e1⟩ σ H2 ⟨rfl,hR2,kp2,h2,fs,ms,tx,ln⟩
 dsimp only at hR2 h2 tx ln
 refine uD (e:=e1) T rfl hR2 hT (fun k pl hb=>by rw[h2];exact y2 hb) fun nb H3 hR3 kp3=>?_
 have ms3:=ms.keep (bW G) hR.cells kp3
 rw[Ey d e1]
 cases hs:dS d (aa b p1 e1)with
 |some g=>
  rw[Lv hs]at h2
  obtain⟨hn,vs3,el3,hlen3⟩:=ms3.cell
  refine b5 ?_
  refine fg (I:=I) (μ:=μ) (i:=(x,p1,e1)) ?_
  refine⟨_,rfl,.inl ⟨rfl,_,aO.of el3⟩,_,rfl,?_⟩
  refine vR hR3 hd hm hs hT h2 (fun x s k pl hb=>y2 hb) fun x' p2 e2 hS2 h3 H4 v4 hR4 kp4 md4=>?_
  have ms4:=ms3.keep (bW G) hR.cells kp4
  obtain⟨_,vs4,el4,hlen4⟩:=ms4.cell
  obtain⟨F4,⟨f4,hf4,ef4⟩,sn4⟩:=md4
  have lc:da H H4 (upd H4 l (.lst (vs4++[v4]))) l:=eB hn el4
  have sz:=oN hR.len p
  have l1:=lh (Dr hs) hS2
  refine⟨l,vs4,v4,rfl,rfl,el4,by omega,(x∘x',p2,e2),l1,rfl,hR4.bM hR lc,((kp2.trans kp3).trans kp4).bM lc,h3,fs++[f4],ms4.append G el4 ⟨F4,hf4,sn4⟩ (ez el3) ((kp2.trans kp3).grow hR3.cells),fun dd r=>?_,?_⟩
  ·show LsWale.statsText dd (x (x' r))=_
   rw[tx,ef4,List.flatMap_append,rJ,List.append_assoc]
   show _=_++(dE (f4 dd++[])++_)
   rw[List.append_nil]
  ·show(fs++[f4]).length+(toks b p2).length<=_
   rw[List.length_append,List.length_singleton];omega
 |none=>
  rw[GN hs]at h2
  refine df ⟨_,rfl,kk _ _ _ h2 H3 _ hR3 (kp2.trans kp3) ?_⟩
  refine ms3.map fun F q=>⟨fs,q,fun dd=>?_,?_⟩
  ·rw[tx]
   show _=_++[]
   rw[List.append_nil]
  ·have:=toks_le b p
   have:=hR.len
   omega
theorem uy(T:Tx P w K mg a):∀m,cP P w K mg base a (70+3*m) a.kK a.jV m (kH a m) cD
 |0=>x5
 |m+1=>HV T (k:=70+3*m+1+1) (by omega) (Jx T (by omega) (y6 T (by omega) (uy T m)))
def eD(L:NL)(k:Kd)(l:List Bytes):NL:=fun j=>if j=k then l else L j
theorem yU{L:NL}{k:Kd}{l:List Bytes}{x:Bytes}:de (eD L k l) k x=eD L k (l++[x]):=by
 funext j
 unfold de eD
 by_cases h:j=k
 ·rw[if_pos h,if_pos h,if_pos h]
 ·rw[if_neg h,if_neg h,if_neg h]
theorem qM{L:NL}{k:Kd}{l:List Bytes}:eD L k l k=l:=if_pos rfl
theorem Ko{L:NL}{k:Kd}:eD L k (L k)=L:=by
 funext j
 unfold eD
 by_cases h:j=k
 ·rw[if_pos h,h]
 ·rw[if_neg h]
theorem AS(e:aA)(x:Bytes):e.told x=true↔∃j,cV j=true/\x∈lst e j:=by
 unfold LsWale.Env.told
 simp only[Bool.or_eq_true,List.contains_iff_mem]
 constructor
 ·rintro(h|h|h|h|h)
  ·exact⟨.sizes,rfl,h⟩
  ·exact⟨.yarns,rfl,h⟩
  ·exact⟨.eC,rfl,h⟩
  ·exact⟨.words,rfl,h⟩
  ·exact⟨.blocks,rfl,h⟩
 ·rintro⟨j,hj,h⟩
  cases j with
  |sizes=>exact .inl h
  |yarns=>exact .inr (.inl h)
  |eC=>exact .inr (.inr (.inl h))
  |words=>exact .inr (.inr (.inr (.inl h)))
  |blocks=>exact .inr (.inr (.inr (.inr h)))
  |markers=>cases hj
  |holders=>cases hj
theorem DA{L:NL}{x:Bytes}:¬dh L x↔∃j,cV j=true/\x∈L j:=by
 unfold dh
 constructor
 ·intro h
  apply Classical.byContradiction
  intro h2
  exact h fun j hj hx=>h2 ⟨j,hj,hx⟩
 ·rintro⟨j,hj,hx⟩ h
  exact h j hj hx
theorem wG(e:aA)(x:Bytes):(e.told x=true\/([]:List Bytes).contains x=true)↔¬dh (lst e) x:=by
 rw[DA,AS]
 simp
theorem Dd{e:aA}{k:Kd}{l:List Bytes}(hk:cV k=true)(h0:lst e k=[])(x:Bytes):(e.told x=true\/l.contains x=true)↔¬dh (eD (lst e) k l) x:=by
 rw[DA,AS,List.contains_iff_mem]
 constructor
 ·rintro(⟨j,hj,hx⟩|h)
  ·refine⟨j,hj,?_⟩
   unfold eD
   rw[if_neg (fun z=>by rw[z,h0]at hx;cases hx)]
   exact hx
  ·exact⟨k,hk,by rw[qM];exact h⟩
 ·rintro⟨j,hj,hx⟩
  unfold eD at hx
  by_cases h:j=k
  ·rw[if_pos h]at hx;exact .inr hx
  ·rw[if_neg h]at hx;exact .inl ⟨j,hj,hx⟩
def g8(m:Nat)(l:List Bytes)(s:ah):Except Fault (List Bytes×ah):=(if s.isSign ','=true then jn m l s.next else .ok (l,s))>>=fun x=>eatSign ';' x.2>>=fun t=>.ok (x.1,t)
def gB(m:Nat)(s:ah):Except Fault (List Bytes×ah):=jn m [] s>>=fun x=>eatSign ';' x.2>>=fun t=>.ok (x.1,t)
theorem GJ{s:ah}{k pl m:Nat}{l:List Bytes}(h:HB s k pl):bF (g8 m l s) k pl:=by
 unfold g8
 rw[if_neg (by rw[fP h];decide)]
 exact kF h
theorem B2(m:Nat)(l:List Bytes)(s:ah):(jn m l s>>=fun x=>eatSign ';' x.2>>=fun t=>(.ok (x.1,t):Except Fault (List Bytes×ah)))=newName l.length m s l>>=fun x=>g8 m (l++[x.1]) x.2:=by
 rw[Fx,bL]
 rfl
theorem Fy{b:Bytes}{p m:Nat}{e:aA}{l:List Bytes}(h:(aa b p e).isSign ','=true):g8 m l (aa b p e)=newName l.length m (aa b (ay b p) e) l>>=fun x=>g8 m (l++[x.1]) x.2:=by
 rw[<-B2]
 unfold g8
 rw[if_pos h,cE (gd h)]
theorem J0{s:ah}{m:Nat}{l:List Bytes}(h:s.isSign ','=false):g8 m l s=eatSign ';' s>>=fun t=>.ok (l,t):=by
 unfold g8
 rw[if_neg (by rw[h];decide)]
 rfl
theorem Ee{vs:List V}{H:Hp}{Q Q':VK}{E:XK}(h:jc K a vs H Q E)(m:∀v H',Q v H'->Q' v H'):jc K a vs H Q' E:=by
 unfold jc at h ⊢
 obtain⟨b,R,p,d,L,k,e,hR,kb,k1,k2⟩:=h
 exact⟨b,R,p,d,L,k,e,hR,kb,k1,fun x hx=>⟨(k2 x hx).1,(k2 x hx).2.1,fun u l H' y hR' kp tk=>m _ _ ((k2 x hx).2.2 u l H' y hR' kp tk)⟩⟩
@[irreducible] def qr(K:PySem.W.Frag)(a:Ad):Sp:=fun vs H Q E=>∃(b0:Bytes)(R:RA)(p0 d0:Nat)(L0:NL)(k:Kd),vs=[.ref R.r,.str (aZ k)]/\aq a K b0 R p0 d0 L0 H/\cV k=true/\
 jc K a [.ref R.r,.str (aZ k)] H (fun v H1=>∃(b:Bytes)(p d:Nat)(L:NL)(y:Addr)(x:Bytes)(kd:Str)(n pl af:Int),v=.ref y/\aq a K b R p d L H1/\bT a.bG H1 y kd (strOf x) n pl af/\dh L x/\(L k).length≠bD k/\
  ∀H',aq a K b R p d (de L k x) H'->aC R H1 H'->Q (.str (strOf x)) H') E
theorem Dc:aI ["reader","kind","name"] ["reader","kind"] (aD yq):=⟨rfl,rfl,rfl,by decide +kernel,rfl,by decide +kernel,by decide +kernel⟩
theorem zC(T:Tx P w K mg a):aB P w K mg base (a8 P w) 11 a.qb a.pT ["reader","kind"] (qr K a):=by
 refine aG.bq (k:=10) T.xK.fn Dc (fun vs H Q E h=>?_) (fun cdv A outer s H vs Q E hr h=>?_)
 ·unfold qr at h;obtain⟨_,_,_,_,_,_,rfl,_⟩:=h;rfl
 unfold qr at h
 obtain⟨b0,R,p0,d0,L0,k,rfl,hR,hk,hw⟩:=h
 have C:=T.bC.cl
 refine⟨_,ai (aW (i:=2) Dc.nd rfl (Or.inl rfl) ((aV (pv 0) C T.ip.mt (tM T) (hr.mono (by omega)) T.ip.bd .nil au (ae (pv 1) ag))))
  (ai (a0 (aV (aH (pv 0) rfl) T.cu.cl T.iD.mt (BY T) (hr.mono (by omega)) T.iD.bd .nil a3 (ae (pv 2) (ae (pv 1) ag)))) (ak (aK (aH (pv 2) rfl)))),?_⟩
 refine⟨_,rfl,R.r,_,_,rfl,hR.ins,rfl,_,rfl,?_⟩
 refine Ee hw ?_
 rintro v H1 ⟨b,p,d,L,y,x,kd,n,pl,af,rfl,hR1,tk1,un,hl,q⟩
 obtain⟨dn,en⟩:=hR1.nm.obj
 refine⟨_,rfl,R.r,_,_,_,_,rfl,hR1.ins,C,T.fh,rfl,R.N.n,dn,_,rfl,en,rfl,_,rfl,_,rfl,R.N,_,k,y,x,_,_,_,_,rfl,hR1.nm,tk1,hk,un,hl,fun H2 nm2 kn2=>?_⟩
 obtain⟨dt,ft,et,lt1,lt2,lt3,lt4,lt5⟩:=bT.keepR tk1 hR1 kn2.keepR
 exact⟨_,rfl,y,_,dt,ft,_,rfl,et,T.bo.cl,T.bV,lt2,q H2 (hR1.names kn2 nm2) kn2.keepR⟩
theorem yM{α:Type}{b:Bytes}{R:RA}{p d:Nat}{L:NL}{e:aA}{H:Hp}{Q:VK}{E:XK}{r:Except Fault (α×ah)}{k:Kd}{f:Bytes×ah->Except Fault (α×ah)}{m most:Nat}{also:List Bytes}(hR:aq a K b R p d L H)(hT:Tl K a E r)(hr:r=newName m most (aa b p e) also>>=f)(hm:m=(L k).length)(hmost:most=bD k)
  (hu:∀x,(e.told x=true\/also.contains x=true)↔¬dh L x) (hk:cV k=true)
  (kk:∀x,nameAt b p=some x->r=f (x,aa b (ay b p) e)->∀H':Hp,aq a K b R (ay b p) d (de L k x) H'->aC R H H'->Q (.str (strOf x)) H'):qr K a [.ref R.r,.str (aZ k)] H Q E:=by
 unfold qr
 refine⟨b,R,p,d,L,k,rfl,hR,hk,rS hR hT hr hm hmost hu fun x hx un hl e1 H1 y hR1 kp1 tk1=>?_⟩
 unfold cS at tk1
 rw[iT hx]at tk1
 exact⟨b,_,d,L,y,x,_,_,_,_,rfl,hR1,tk1,un,hl,fun H' hR' kp'=>kk x hx e1 H' hR' (kp1.trans kp')⟩
@[irreducible] def qK(K:PySem.W.Frag)(a:Ad):Sp:=fun vs H Q E=>∃(b:Bytes)(R:RA)(p d:Nat)(e:aA)(k:Kd),vs=[.ref R.r,.str (aZ k)]/\aq a K b R p d (lst e) H/\cV k=true/\lst e k=[]/\Tl K a E (gB (bD k) (aa b p e))/\
 ∀l p',l≠[]->gB (bD k) (aa b p e)=.ok (l,aa b p' e)->∀(H':Hp)(v:V),aq a K b R p' d (eD (lst e) k l) H'->aC R H H'->Md (iy a (dM a 9)) H H' v (l.map fun x=>[x])->Q v H'
theorem AW:aI ["reader","kind","phrases"] ["reader","kind"] (aD wH):=⟨rfl,rfl,rfl,by decide +kernel,rfl,by decide +kernel,by decide +kernel⟩
theorem CK(T:Tx P w K mg a):aB P w K mg base (a8 P w) 12 a.pK a.pb ["reader","kind"] (qK K a):=by
 refine aG.bq (k:=11) T.wX.fn AW (fun vs H Q E h=>?_) (fun cdv A outer s H vs Q E hr h=>?_)
 ·unfold qK at h;obtain⟨_,_,_,_,_,_,rfl,_⟩:=h;rfl
 unfold qK at h
 obtain⟨b,R,p,d,e,k,rfl,hR,hk,h0,hT,kk⟩:=h
 have C:=T.bC.cl
 have G:=cj a 9
 have GP:=cz a 9
 refine⟨_,ai (aW (i:=2) AW.nd rfl (Or.inl rfl) (bK (ae (bK (ae (aS T.xK (zC T) hr au (ae (pv 0) (ae (pv 1) ag))) ag)) ag)))
  (ai (fD gW (di (aV (pv 0) C T.dO.mt (iQ T) (hr.mono (by omega)) T.dO.bd .nil au (ae aQ ag))) (ak (a0 ((dQ PySem.F.plainAttrs_list PySem.F.slot_list_append PySem.F.type_list_append fU (pv 2) (ae (bK (ae (aS T.xK (zC T) hr au (ae (pv 0) (ae (pv 1) ag))) ag)) ag))))))
  (ai (a0 (aV (pv 0) C T.cH.mt (gR T) (hr.mono (by omega)) T.cH.bd .nil au (ae aQ ag))) (ak (aK (eA T.kN.dU (xm T) (hr.mono (by omega)) rfl T.kN.at_ T.sW.2 .nil a3 (ae (pv 2) ag)))))),?_⟩
 have e0:gB (bD k) (aa b p e)=newName ([]:List Bytes).length (bD k) (aa b p e) []>>=fun x=>g8 (bD k) ([]++[x.1]) x.2:=B2 _ _ _
 have hR0:aq a K b R p d (eD (lst e) k []) H:=by rw[<-h0,Ko];exact hR
 refine⟨_,rfl,_,rfl,?_⟩
 refine yM (k:=k) hR0 hT e0 (by rw[qM]) rfl (Dd hk h0) hk fun x hx e1 H2 hR2 kp2=>⟨(by show 1<=sizeLine;decide),fun l1 hl1=>⟨(by show 1<=sizeLine;decide),fun l hl=>?_⟩⟩
 rw[yU]at hR2
 have g2:=kp2.grow hR2.cells
 have m1:Md (bQ a 9) H (upd H2 l1 (.lst [.str (strOf x)])) (.ref l1) [x]:=aE.list G (aE.cons G (bR (H0:=H) (H:=H2) x) aE.nil) hl1 g2
 have ml:=aE.list GP (aE.cons GP m1 aE.nil) hl (g2.trans qG)
 let I:List Bytes×Nat->L2.St->Hp->Prop:=fun i σ H'=>σ=[some (.ref R.r),some (.str (aZ k)),some (.ref l)]/\i.1≠[]/\aq a K b R i.2 d (eD (lst e) k i.1) H'/\aC R H H'/\gB (bD k) (aa b p e)=g8 (bD k) i.1 (aa b i.2 e)/\Md (cI (bQ a 9)) H H' (.ref l) (i.1.map fun x=>[x])
 let μ:List Bytes×Nat->Nat:=fun i=>(toks b i.2).length
 refine fG I μ ([]++[x],ay b p) ⟨rfl,(by simp),(hR2.same (aP hl1)).same (aP hl),(kp2.trans (bg (aP hl1))).trans (bg (aP hl)),e1,ml⟩ ?_
 rintro⟨nl,p1⟩ σ H3 ⟨rfl,hne,hR3,kp3,h3,ms⟩
 dsimp only at hR3 h3 hne ms
 refine⟨_,rfl,R.r,_,_,rfl,hR3.ins,rfl,?_⟩
 refine vZ (c:=',') (e:=e) hR3 hT (fun k pl hb=>by rw[h3];exact GJ hb) (fun c H4 hR4 kp4=>?_) (fun c nb H4 hR4 kp4=>?_)
 ·rw[Fy c]at h3
  have ms4:=ms.keep (bW GP) hR.cells kp4
  obtain⟨hn,vs4,el4,hlen4⟩:=ms4.cell
  refine⟨_,rfl,b5 ?_⟩
  refine fg (I:=I) (μ:=μ) (i:=(nl,p1)) ?_
  refine⟨_,rfl,.inl ⟨rfl,_,aO.of el4⟩,_,rfl,_,rfl,?_⟩
  refine yM (k:=k) hR4 hT h3 (by rw[qM]) rfl (Dd hk h0) hk fun x' hx' e4 H6 hR6 kp6=>⟨(by show 1<=sizeLine;decide),fun l6 hl6=>?_⟩
  rw[yU]at hR6
  have kp04:=kp3.trans kp4
  have g46:=kp6.grow hR6.cells
  have m6:Md (bQ a 9) H4 (upd H6 l6 (.lst [.str (strOf x')])) (.ref l6) [x']:=aE.list G (aE.cons G (bR (H0:=H4) (H:=H6) x') aE.nil) hl6 g46
  have ms6:=(ms4.keep (bW GP) hR.cells kp6).same (bW GP) (aP (o:=.lst [.str (strOf x')]) hl6)
  obtain⟨_,vs6,el6,hlen6⟩:=ms6.cell
  have hR7:=hR6.same (aP (o:=.lst [.str (strOf x')]) hl6)
  have kp07:=(kp04.trans kp6).trans (bg (aP (o:=.lst [.str (strOf x')]) hl6))
  have lc:da H (upd H6 l6 (.lst [.str (strOf x')])) (upd (upd H6 l6 (.lst [.str (strOf x')])) l (.lst (vs6++[.ref l6]))) l:=eB hn el6
  have bd:=hR3.nm.bd k
  rw[qM]at bd
  have hb:bD k<=256:=by cases k<;>decide
  have sz:sizeLine=16777216:=by decide
  rw[List.length_map]at hlen6
  refine⟨l,vs6,.ref l6,rfl,rfl,el6,by omega,(nl++[x'],ay b (ay b p1)),?_,rfl,(by simp),hR7.bM hR lc,kp07.bM lc,e4,?_⟩
  ·have l1:=lC (gd c)
   have l2:=lC (b:=b) (p:=ay b p1) (by rw[(tq hx').1];rfl)
   show(toks b (ay b (ay b p1))).length<(toks b p1).length
   omega
  ·show Md _ _ _ _ ((nl++[x']).map fun x=>[x])
   rw[List.map_append]
   exact ms6.append GP el6 m6 (ez el4) (kp04.grow hR4.cells)
 ·rw[J0 c]at h3
  refine⟨_,rfl,df ⟨_,rfl,R.r,_,_,rfl,hR4.ins,rfl,?_⟩⟩
  refine gy hR4 hT h3 (k:=fun e5 H5 y5 hR5 kp5 tk5=>⟨_,rfl,fun x6 dx6 n6 nd6 ne6=>⟨x6,dx6,.ref l,rfl,az,fun H6 e6 kp6=>⟨rfl,?_⟩⟩⟩)
  have sm6:=aN.made n6 nd6 kp6
  have kp05:=(kp3.trans kp4).trans kp5
  exact kk nl _ hne e5 H6 _ (hR5.same sm6) (kp05.trans (bg sm6)) (Md.listed G (ms.keep (bW GP) hR.cells (kp4.trans kp5)) (kp05.grow hR5.cells) sm6 n6 e6)
end Wale
end
section
set_option Elab.async false
set_option linter.all false
set_option maxRecDepth 100000
set_option maxHeartbeats 2000000
namespace Wale
open PySem PySem.Spec PyProof.Rows L2
open Wm
open LsWale (ascii Fault eatSign eatWord eatOpen anyName newName oldName markName holdName wanted isName PLAINS)
variable {P:Program}{w:World}{K:PySem.W.Frag}{mg:Str->Option Value}{base:Heap}{a:Ad}
@[irreducible] def sH(a:Ad):Sp:=zf a
@[irreducible] def tN(a:Ad):Sp:=BH a
theorem r6(T:Tx P w K mg a):aB P w K mg base bx 1 a.lD a.mf ["self","kind"] (sH a):=by unfold sH;exact rF T
theorem yy(T:Tx P w K mg a):aB P w K mg base bx 2 a.mN a.k8 ["self","token","kind"] (tN a):=by unfold tN;exact BY T
theorem rj{b:Bytes}{R:RA}{p d:Nat}{L:NL}{H:Hp}{Q:VK}(hR:aq a K b R p d L H)(k:Kd)(q:Q (.int (L k).length) H):sH a [.ref R.N.n,.str (aZ k)] H Q E0:=by
 obtain⟨dx,e0⟩:=hR.nm.obj
 obtain⟨kvs,e1,h1,-⟩:=hR.nm.fL
 unfold sH
 exact⟨R.N,dx,kvs,aZ k,_,rfl,e0,e1,h1 k,q⟩
theorem rb{b:Bytes}{R:RA}{p d:Nat}{L:NL}{H:Hp}{Q:VK}{y:Addr}{x:Bytes}{kd:Str}{n pl af:Int}(hR:aq a K b R p d L H)(k:Kd)(tk:bT a.bG H y kd (strOf x) n pl af)(hk:cV k=true)(un:dh L x)(hl:(L k).length≠bD k)
  (kk:∀H':Hp,aq a K b R p d (de L k x) H'->aC R H H'->Q .aw H'):tN a [.ref R.N.n,.ref y,.str (aZ k)] H Q E0:=by
 unfold tN
 exact⟨R.N,L,k,y,x,kd,n,pl,af,rfl,hR.nm,tk,hk,un,hl,fun H' nm kn=>kk H' (hR.names kn nm) kn.keepR⟩
theorem zq{α:Type}{b:Bytes}{R:RA}{p d:Nat}{e:aA}{H:Hp}{Q:VK}{E:XK}{r:Except Fault (α×ah)}{f:List Bytes×ah->Except Fault (α×ah)}(hR:aq a K b R p d (lst e) H)(k:Kd)(hk:cV k=true)(h0:lst e k=[])(hT:Tl K a E r)(hr:r=gB (bD k) (aa b p e)>>=f)(hB:∀x s k pl,HB s k pl->bF (f (x,s)) k pl)
  (kk:∀l p',l≠[]->r=f (l,aa b p' e)->∀(H':Hp)(v:V),aq a K b R p' d (eD (lst e) k l) H'->aC R H H'->Md (iy a (dM a 9)) H H' v (l.map fun x=>[x])->Q v H'):qK K a [.ref R.r,.str (aZ k)] H Q E:=by
 unfold qK
 exact⟨b,R,p,d,e,k,rfl,hR,hk,h0,fun k pl h=>hT k pl (by rw[hr];exact h.bind fun x s hb=>hB x s k pl hb),fun l p' hl hS=>kk l p' hl (by rw[hr,hS];rfl)⟩
def hX(a:Ad):Rep LsWale.Head:=fun H F v h=>∃f,eM a 9 H F v f/\LsWale.headText h=dE (f 0)
theorem Md.tR{H0 H H':Hp}{u:V}{ph:List Bytes}{x dx:Addr}{h:LsWale.Head}(m:Md (bQ a 10) H0 H u ph)(g:b8 H0 H)(s:aN H H')(nx:H x=none)(e:H' x=some (.ins a.dG dx [("phrase",u),("body",.aw)]))(tx:LsWale.headText h=LsWale.line 0 (cF ph++[59])):Md (hX a) H0 H' (.ref x) h:=by
 refine(Md.um (n:=9) m g s nx e).map fun F q=>⟨_,q,?_⟩
 rw[tx]
 show _=((LsWale.indent 0++(cF ph++[59]))++[10]++[])
 unfold LsWale.line
 simp only[List.append_assoc,List.append_nil]
theorem Cr(l:List Bytes):dF (l.map fun x=>[x])=LsWale.commas l:=by
 unfold dF
 rw[List.map_map]
 congr 1
 exact List.map_id' l
theorem Md.xP{n:Nat}{H0 H:Hp}{v:V}{ps:List (List Bytes)}(m:Md (iy a (dM a n)) H0 H v ps):Md (dM a (n+1)) H0 H v (dF ps):=m.map fun F q=>Or.inr (Or.inl ⟨ps,q,rfl⟩)
theorem IZ:("sizes":Str)=strOf (ascii "sizes"):=by decide +kernel
theorem Gh:("yarns":Str)=strOf (ascii "yarns"):=by decide +kernel
theorem IG:("let":Str)=strOf (ascii "let"):=by decide +kernel
theorem Jl:("word":Str)=strOf (ascii "word"):=by decide +kernel
theorem K3:("block":Str)=strOf (ascii "block"):=by decide +kernel
theorem BX:("=":Str)=strOf (ascii "="):=by decide +kernel
def Ev(e:aA):Prop:=e.sizes≠some []/\e.yarns≠some []
theorem wU{s:ah}{k pl:Nat}{e:aA}(h:HB s k pl):HB ({s with env:=e}:ah) k pl:=h
theorem HC(e:aA)(l:List Bytes):eD (lst e) .sizes l=lst {e with sizes:=some l}:=by funext j;cases j<;>rfl
theorem EN(e:aA)(l:List Bytes):eD (lst e) .yarns l=lst {e with yarns:=some l}:=by funext j;cases j<;>rfl
theorem tS{o:Option (List Bytes)}(h:o≠some []):(0<(o.getD []).length)↔o.isSome=true:=by
 cases o with
 |none=>simp
 |some l=>
  cases l with
  |nil=>exact absurd rfl h
  |cons c r=>simp
def pf(pl:Nat)(s:ah):Except Fault (LsWale.Head×ah):=if s.env.sizes.isSome=true\/s.env.lets≠[]then .error ⟨5,pl⟩else gB 16 s>>=fun x=>.ok (.sizes x.1,{x.2 with env:={x.2.env with sizes:=some x.1}})
def qB(pl:Nat)(s:ah):Except Fault (LsWale.Head×ah):=if s.env.yarns.isSome=true then .error ⟨5,pl⟩else gB 16 s>>=fun x=>.ok (.yarns x.1,{x.2 with env:={x.2.env with yarns:=some x.1}})
@[irreducible] def jd(K:PySem.W.Frag)(a:Ad)(S:Nat->ah->Except Fault (LsWale.Head×ah)):Sp:=fun vs H Q E=>∃(b:Bytes)(R:RA)(p:Nat)(e:aA)(x:Addr),vs=[.ref R.r,.ref x]/\aq a K b R (ay b p) 0 (lst e) H/\cS a b p H x/\Ev e/\
 Tl K a E (S (aM b p) (aa b (ay b p) e))/\∀x p' e',Ev e'->S (aM b p) (aa b (ay b p) e)=.ok (x,aa b p' e')->∀(H':Hp)(v:V),aq a K b R p' 0 (lst e') H'->aC R H H'->Md (hX a) H H' v x->Q v H'
theorem DM{S:Nat->ah->Except Fault (LsWale.Head×ah)}(vs:List V)(H:Hp)(Q:VK)(E:XK)(h:jd K a S vs H Q E):vs.length=2:=by
 unfold jd at h
 obtain⟨_,_,_,_,_,rfl,_⟩:=h;rfl
theorem FU:aI ["reader","token"] ["reader","token"] (aD xV):=⟨rfl,rfl,rfl,by decide +kernel,rfl,by decide +kernel,by decide +kernel⟩
theorem Kb:aI ["reader","token"] ["reader","token"] (aD w6):=⟨rfl,rfl,rfl,by decide +kernel,rfl,by decide +kernel,by decide +kernel⟩
theorem Ep(T:Tx P w K mg a):aB P w K mg base (a8 P w) 13 a.pq a.qt ["reader","token"] (jd K a pf):=by
 refine aG.bq (k:=12) T.AK.fn FU DM (fun cdv A outer s H vs Q E hr h=>?_)
 unfold jd at h
 obtain⟨b,R,p,e,x,rfl,hR,tk,ev,hT,kk⟩:=h
 have C:=T.bC.cl
 refine⟨_,ai (a7 (PW.pt (iq (a4 jf ((aV (aH (pv 0) rfl) T.cu.cl T.eE.mt (r6 T) (hr.mono (by omega)) T.eE.bd .nil a3 (ae (bB T.xE) ag))) bN (aX _)) (iM (a4 jf ((aV (aH (pv 0) rfl) T.cu.cl T.eE.mt (r6 T) (hr.mono (by omega)) T.eE.bd .nil a3 (ae (bB T.sj) ag))) bN (aX _)))))
   (ak (eL rfl eP T.mn (yk T) T.sh.2 (hr.mono (by omega)) (aH (pv 1) rfl))) bj)
  (ak (aK (eA T.dC.dU (je T) (hr.mono (by omega)) rfl T.dC.at_ T.hZ.2 .nil a3 (ae (bK (ae aQ (ae (aS T.wX (CK T) hr au (ae (pv 0) (ae (bB T.xE) ag))) ag))) (ae iu ag))))),?_⟩
 obtain⟨dn,en⟩:=hR.nm.obj
 obtain⟨dt,ft,et,lt1,lt2,lt3,lt4,lt5⟩:=tk
 have bad:∀lo,(e.sizes.isSome=true\/e.lets≠[])->k9 lo K a.nB E 5 (mw K (bA 1) "place") {nx:=fun _ H'=>Q .aw H',rt:=Q} [some (.ref R.r),some (.ref x)] H:=fun lo hc=>
  ⟨_,rfl,x,_,dt,ft,_,rfl,et,T.bo.cl,T.gf,lt4,d6 T.mn (hT.err (by unfold pf;rw[if_pos hc]))⟩
 refine⟨_,rfl,R.r,_,_,_,_,rfl,hR.ins,C,T.fh,rfl,R.N.n,dn,_,rfl,en,rfl,?_⟩
 refine rj hR .sizes ⟨_,_,rfl,rfl,_,rfl,?_⟩
 refine aT (fun c=>?_) (fun c=>?_)
 ·have c':0<(e.sizes.getD []).length:=by have:=of_decide_eq_true c;have h:(0:Int)<((e.sizes.getD []).length:Int):=this;omega
  exact b5 (bad _ (.inl ((tS ev.1).mp c')))
 have n1:¬e.sizes.isSome=true:=fun z=>c (decide_eq_true (by
  have:=(tS ev.1).mpr z
  show(0:Int)<((e.sizes.getD []).length:Int)
  omega))
 refine⟨_,rfl,R.r,_,_,_,_,rfl,hR.ins,C,T.fh,rfl,R.N.n,dn,_,rfl,en,rfl,?_⟩
 refine rj hR .eC ⟨_,_,rfl,rfl,_,rfl,?_⟩
 refine aT (fun c=>?_) (fun c=>?_)
 ·refine bad _ (.inr fun z=>?_)
  have:=of_decide_eq_true c
  have h:(0:Int)<((e.lets).length:Int):=this
  rw[z]at h
  simp at h
 have n2:e.lets=[]:=by
  have h:¬(0:Int)<((e.lets).length:Int):=fun z=>c (decide_eq_true z)
  exact List.length_eq_zero_iff.mp (by omega)
 have e1:pf (aM b p) (aa b (ay b p) e)=gB (bD .sizes) (aa b (ay b p) e)>>=fun x=>.ok (.sizes x.1,{x.2 with env:={x.2.env with sizes:=some x.1}}):=by
  unfold pf
  rw[if_neg (fun z=>z.elim n1 fun z=>z n2)]
  rfl
 refine⟨_,rfl,?_⟩
 refine zq hR .sizes rfl ?_ hT e1 (fun x s k pl hb=>c7 (wU hb)) fun l p' hl e2 H' v' hR' kp md'=>⟨(by show 2<=sizeLine;decide),fun q hq=>fun x6 dx6 n6 nd6 ne6=>⟨x6,dx6,.ref q,.aw,rfl,az,fun H6 e6 kp6=>⟨rfl,?_⟩⟩⟩
 ·show e.sizes.getD []=[]
  cases q:e.sizes with
  |none=>rfl
  |some l=>rw[q]at n1;exact absurd rfl n1
 ·rw[HC]at hR'
  have G:=cj a 10
  have sm6:=aN.made n6 nd6 kp6
  have hR5:=hR'.same (aP (o:=.lst [.str "sizes",v']) hq)
  have kp5:=kp.trans (bg (aP (o:=.lst [.str "sizes",v']) hq))
  have mp:Md (bQ a 10) H (upd H' q (.lst [.str "sizes",v'])) (.ref q) [ascii "sizes",dF (l.map fun x=>[x])]:=by
   rw[IZ]
   exact aE.list G (aE.cons G (bR (H0:=H) (H:=H') (ascii "sizes")) (aE.cons G md'.xP aE.nil)) hq (kp.grow hR'.cells)
  exact kk _ _ {e with sizes:=some l} ⟨fun z=>hl (Option.some.inj z),ev.2⟩ e2 H6 _ (hR5.same sm6) (kp5.trans (bg sm6)) (Md.tR mp (kp5.grow hR5.cells) sm6 n6 e6 (by rw[Cr];rfl))
theorem LI(T:Tx P w K mg a):aB P w K mg base (a8 P w) 13 a.px a.nR ["reader","token"] (jd K a qB):=by
 refine aG.bq (k:=12) T.Bn.fn Kb DM (fun cdv A outer s H vs Q E hr h=>?_)
 unfold jd at h
 obtain⟨b,R,p,e,x,rfl,hR,tk,ev,hT,kk⟩:=h
 have C:=T.bC.cl
 refine⟨_,ai (a7 (a4 jf ((aV (aH (pv 0) rfl) T.cu.cl T.eE.mt (r6 T) (hr.mono (by omega)) T.eE.bd .nil a3 (ae (bB T.uH) ag))) bN (aX _))
   (ak (eL rfl eP T.mn (yk T) T.sh.2 (hr.mono (by omega)) (aH (pv 1) rfl))) bj)
  (ak (aK (eA T.dC.dU (je T) (hr.mono (by omega)) rfl T.dC.at_ T.hZ.2 .nil a3 (ae (bK (ae aQ (ae (aS T.wX (CK T) hr au (ae (pv 0) (ae (bB T.uH) ag))) ag))) (ae iu ag))))),?_⟩
 obtain⟨dn,en⟩:=hR.nm.obj
 obtain⟨dt,ft,et,lt1,lt2,lt3,lt4,lt5⟩:=tk
 refine⟨_,rfl,R.r,_,_,_,_,rfl,hR.ins,C,T.fh,rfl,R.N.n,dn,_,rfl,en,rfl,?_⟩
 refine rj hR .yarns ⟨_,_,rfl,rfl,_,rfl,?_⟩
 refine aT (fun c=>?_) (fun c=>?_)
 ·have c':0<(e.yarns.getD []).length:=by have:=of_decide_eq_true c;have h:(0:Int)<((e.yarns.getD []).length:Int):=this;omega
  exact⟨_,rfl,x,_,dt,ft,_,rfl,et,T.bo.cl,T.gf,lt4,d6 T.mn (hT.err (by unfold qB;rw[if_pos ((tS ev.2).mp c')]))⟩
 have n1:¬e.yarns.isSome=true:=fun z=>c (decide_eq_true (by
  have:=(tS ev.2).mpr z
  show(0:Int)<((e.yarns.getD []).length:Int)
  omega))
 have e1:qB (aM b p) (aa b (ay b p) e)=gB (bD .yarns) (aa b (ay b p) e)>>=fun x=>.ok (.yarns x.1,{x.2 with env:={x.2.env with yarns:=some x.1}}):=by
  unfold qB
  rw[if_neg n1]
  rfl
 refine⟨_,rfl,?_⟩
 refine zq hR .yarns rfl ?_ hT e1 (fun x s k pl hb=>c7 (wU hb)) fun l p' hl e2 H' v' hR' kp md'=>⟨(by show 2<=sizeLine;decide),fun q hq=>fun x6 dx6 n6 nd6 ne6=>⟨x6,dx6,.ref q,.aw,rfl,az,fun H6 e6 kp6=>⟨rfl,?_⟩⟩⟩
 ·show e.yarns.getD []=[]
  cases q:e.yarns with
  |none=>rfl
  |some l=>rw[q]at n1;exact absurd rfl n1
 ·rw[EN]at hR'
  have G:=cj a 10
  have sm6:=aN.made n6 nd6 kp6
  have hR5:=hR'.same (aP (o:=.lst [.str "yarns",v']) hq)
  have kp5:=kp.trans (bg (aP (o:=.lst [.str "yarns",v']) hq))
  have mp:Md (bQ a 10) H (upd H' q (.lst [.str "yarns",v'])) (.ref q) [ascii "yarns",dF (l.map fun x=>[x])]:=by
   rw[Gh]
   exact aE.list G (aE.cons G (bR (H0:=H) (H:=H') (ascii "yarns")) (aE.cons G md'.xP aE.nil)) hq (kp.grow hR'.cells)
  exact kk _ _ {e with yarns:=some l} ⟨ev.1,fun z=>hl (Option.some.inj z)⟩ e2 H6 _ (hR5.same sm6) (kp5.trans (bg sm6)) (Md.tR mp (kp5.grow hR5.cells) sm6 n6 e6 (by rw[Cr];rfl))
@[irreducible] def gD(K:PySem.W.Frag)(a:Ad)(S:ah->Except Fault (LsWale.Head×ah)):Sp:=fun vs H Q E=>∃(b:Bytes)(R:RA)(p:Nat)(e:aA),vs=[.ref R.r]/\aq a K b R p 0 (lst e) H/\Ev e/\
 Tl K a E (S (aa b p e))/\∀x p' e',Ev e'->S (aa b p e)=.ok (x,aa b p' e')->∀(H':Hp)(v:V),aq a K b R p' 0 (lst e') H'->aC R H H'->Md (hX a) H H' v x->Q v H'
theorem xo{S:ah->Except Fault (LsWale.Head×ah)}(vs:List V)(H:Hp)(Q:VK)(E:XK)(h:gD K a S vs H Q E):vs.length=1:=by
 unfold gD at h
 obtain⟨_,_,_,_,rfl,_⟩:=h;rfl
theorem mM{e e':aA}(h:cQ e e'){j:Kd}(hj:cV j=true):lst e' j=lst e j:=by
 obtain⟨h1,h2,h3,h4,h5⟩:=h
 cases j with
 |sizes=>show e'.sizes.getD []=e.sizes.getD [];rw[h1]
 |yarns=>show e'.yarns.getD []=e.yarns.getD [];rw[h2]
 |eC=>exact h3
 |words=>exact h4
 |blocks=>exact h5
 |markers=>cases hj
 |holders=>cases hj
theorem w8{e e':aA}(h:cQ e e')(ev:Ev e):Ev e':=⟨by rw[h.1];exact ev.1,by rw[h.2.1];exact ev.2⟩
theorem t6{e e':aA}(h:cQ e e'){x:Bytes}(u:dh (lst e) x):dh (lst e') x:=fun j hj=>by rw[mM h hj];exact u j hj
def AL(s:ah):Except Fault (LsWale.Head×ah):=newName s.env.blocks.length 64 s []>>=fun n=>gL 0 n.2>>=fun x=>.ok (.block n.1 x.1,{x.2 with env:={x.2.env with blocks:=x.2.env.blocks++[n.1]}})
def FW(s:ah):Except Fault (LsWale.Head×ah):=newName s.env.words.length 64 s []>>=fun n=>eatSign '=' n.2>>=fun t=>cw 0 t>>=fun x=>eatSign ';' x.2>>=fun u=>.ok (.word n.1 x.1,{u with env:={u.env with words:=u.env.words++[n.1]}})
def vK(s:ah):Except Fault (LsWale.Head×ah):=newName s.env.lets.length 256 s []>>=fun n=>eatSign '=' n.2>>=fun t=>i9 t>>=fun x=>eatSign ';' x.2>>=fun u=>
 if x.1.length≠1/\x.1.length≠s.env.many then .error ⟨7,s.place⟩else .ok (.let_ n.1 x.1,{u with env:={u.env with lets:=u.env.lets++[n.1]}})
theorem Ki(e:aA)(x:Bytes):de (lst e) .blocks x=lst {e with blocks:=e.blocks++[x]}:=by funext j;cases j<;>rfl
theorem Mn(e:aA)(x:Bytes):de (lst e) .words x=lst {e with words:=e.words++[x]}:=by funext j;cases j<;>rfl
theorem Hd(e:aA)(x:Bytes):de (lst e) .eC x=lst {e with lets:=e.lets++[x]}:=by funext j;cases j<;>rfl
theorem F0(d:Nat)(s:ah):Ke s.env (gL d s):=by
 unfold gL
 exact dm.bind fun t h1=>Ke.bind fun i u h2=>dm.bind fun v h3=>bH (((tw t h1).trans (Ex _ _ i u h2)).trans (gO v h3))
theorem wB:aI ["reader","name","body"] ["reader"] (aD vO):=⟨rfl,rfl,rfl,by decide +kernel,rfl,by decide +kernel,by decide +kernel⟩
theorem Jr(T:Tx P w K mg a):aB P w K mg base (a8 P w) 96 a.qg a.nN ["reader"] (gD K a AL):=by
 refine aG.bq (k:=95) T.zM.fn wB xo (fun cdv A outer s H vs Q E hr h=>?_)
 unfold gD at h
 obtain⟨b,R,p,e,rfl,hR,ev,hT,kk⟩:=h
 have C:=T.bC.cl
 have G:=cj a 10
 refine⟨_,ai (aW (i:=1) wB.nd rfl (Or.inl rfl) ((aV (pv 0) C T.ip.mt (tM T) (hr.mono (by omega)) T.ip.bd .nil au (ae (bB T.yx) ag))))
  (ai (aW (i:=2) wB.nd rfl (Or.inl rfl) (aS T.xT (y6 T (by omega) (uy T 8)) hr au (ae (pv 0) ag))) (ai (a0 ((aV (aH (pv 0) rfl) T.cu.cl T.iD.mt (yy T) (hr.mono (by omega)) T.iD.bd .nil a3 (ae (pv 1) (ae (bB T.yx) ag)))))
  (ak (aK (eA T.dC.dU (je T) (hr.mono (by omega)) rfl T.dC.at_ T.hZ.2 .nil a3 (ae (bK (ae aQ (ae (aH (pv 1) rfl) ag))) (ae (pv 2) ag))))))),?_⟩
 refine⟨_,rfl,R.r,_,_,rfl,hR.ins,rfl,?_⟩
 refine rS (k:=.blocks) hR hT rfl rfl rfl (wG e) fun x hx un hl e1 H1 y hR1 kp1 tk1=>?_
 unfold cS at tk1
 rw[iT hx]at tk1
 refine⟨_,rfl,?_⟩
 refine bZ (m:=9) hR1 (by omega) (by omega) hT e1 (fun x s k pl hb=>c7 (wU hb)) fun x2 p2 e2 hS e3 H2 v2 hR2 kp2 md2=>?_
 have sm:cQ e e2:=F0 0 _ _ _ hS
 have tk2:=bT.keepR tk1 hR1 kp2
 obtain⟨dn,en⟩:=hR2.nm.obj
 refine⟨_,rfl,R.r,_,_,_,_,rfl,hR2.ins,C,T.fh,rfl,R.N.n,dn,_,rfl,en,rfl,_,rfl,?_⟩
 refine rb hR2 .blocks tk2 rfl (t6 sm un) (by rw[mM sm rfl];exact hl) fun H3 hR3 kp3=>?_
 obtain⟨dt,ft,et,lt1,lt2,lt3,lt4,lt5⟩:=bT.keepR tk2 hR2 kp3
 have kp03:=(kp1.trans kp2).trans kp3
 refine⟨_,rfl,y,_,dt,ft,_,rfl,et,T.bo.cl,T.bV,lt2,(by show 2<=sizeLine;decide),fun q hq=>⟨_,rfl,fun x6 dx6 n6 nd6 ne6=>⟨x6,dx6,.ref q,v2,rfl,az,fun H6 e6 kp6=>⟨rfl,?_⟩⟩⟩⟩
 rw[Ki]at hR3
 have sm6:=aN.made n6 nd6 kp6
 have hR5:=hR3.same (aP (o:=.lst [.str "block",.str (strOf x)]) hq)
 have kp5:=kp03.trans (bg (aP (o:=.lst [.str "block",.str (strOf x)]) hq))
 have mp:Md (bQ a 10) H (upd H3 q (.lst [.str "block",.str (strOf x)])) (.ref q) [ascii "block",x]:=by
  rw[K3]
  exact aE.list G (aE.cons G (bR (H0:=H) (H:=H3) (ascii "block")) (aE.cons G (bR x) aE.nil)) hq (kp03.grow hR3.cells)
 have md5:=((md2.keep (xN a 8) hR1.cells kp3).same (xN a 8) (aP (o:=.lst [.str "block",.str (strOf x)]) hq)).old (kp1.grow hR1.cells)
 obtain⟨F5,⟨fs,hfs,efs,-⟩,s5⟩:=md5
 refine kk _ _ {e2 with blocks:=e2.blocks++[x]} (show Ev e2 from w8 sm ev) e3 H6 _ (hR5.same sm6) (kp5.trans (bg sm6)) ?_
 refine(Md.B6 mp ⟨F5,hfs,s5⟩ (kp5.grow hR5.cells) sm6 n6 e6).map fun F q=>⟨_,q,?_⟩
 show LsWale.line 0 (ascii "block "++(x++ascii " {"))++(LsWale.statsText 1 x2++LsWale.line 0 [125])=_
 have:=Ce 0 (ascii "block") x fs x2 .nil (efs 1)
 rw[show LsWale.statsText 0 .nil=[]from rfl,List.append_nil,List.append_nil]at this
 rw[<-this,show ascii "block "=ascii "block"++[32]from rfl]
 simp only[List.append_assoc,List.cons_append,List.nil_append]
theorem uW:aI ["reader","name","listed"] ["reader"] (aD wm):=⟨rfl,rfl,rfl,by decide +kernel,rfl,by decide +kernel,by decide +kernel⟩
theorem Mp(T:Tx P w K mg a):aB P w K mg base (a8 P w) 68 a.pd a.qy ["reader"] (gD K a FW):=by
 refine aG.bq (k:=67) T.BP.fn uW xo (fun cdv A outer s H vs Q E hr h=>?_)
 unfold gD at h
 obtain⟨b,R,p,e,rfl,hR,ev,hT,kk⟩:=h
 have C:=T.bC.cl
 have G:=cj a 10
 refine⟨_,ai (aW (i:=1) uW.nd rfl (Or.inl rfl) ((aV (pv 0) C T.ip.mt (tM T) (hr.mono (by omega)) T.ip.bd .nil au (ae (bB T.vo) ag))))
  (ai (a0 (aV (pv 0) C T.cH.mt (gR T) (hr.mono (by omega)) T.cH.bd .nil au (ae aQ ag))) (ai (aW (i:=2) uW.nd rfl (Or.inl rfl) (aS T.tj (wL T 9) hr au (ae (pv 0) ag))) (ai (a0 (aV (pv 0) C T.cH.mt (gR T) (hr.mono (by omega)) T.cH.bd .nil au (ae aQ ag))) (ai (a0 ((aV (aH (pv 0) rfl) T.cu.cl T.iD.mt (yy T) (hr.mono (by omega)) T.iD.bd .nil a3 (ae (pv 1) (ae (bB T.vo) ag)))))
  (ak (aK (eA T.dC.dU (je T) (hr.mono (by omega)) rfl T.dC.at_ T.hZ.2 .nil a3 (ae (bK (ae aQ (ae (aH (pv 1) rfl) (ae aQ (ae (pv 2) ag))))) (ae iu ag))))))))),?_⟩
 refine⟨_,rfl,R.r,_,_,rfl,hR.ins,rfl,?_⟩
 refine rS (k:=.words) hR hT rfl rfl rfl (wG e) fun x hx un hl e1 H1 y hR1 kp1 tk1=>?_
 unfold cS at tk1
 rw[iT hx]at tk1
 refine⟨_,rfl,R.r,_,_,rfl,hR1.ins,rfl,?_⟩
 refine gy hR1 hT e1 (k:=fun e2 H2 z hR2 kp2 _=>⟨_,rfl,?_⟩)
 refine bZ (m:=9) hR2 (by omega) (by omega) hT e2 (fun x s k pl hb=>kF hb) fun x2 p2 e3 hS e4 H3 v3 hR3 kp3 md3=>?_
 have sm:cQ e e3:=Ms 0 _ _ _ hS
 refine⟨_,rfl,R.r,_,_,rfl,hR3.ins,rfl,?_⟩
 refine gy hR3 hT e4 (k:=fun e5 H4 z hR4 kp4 _=>?_)
 have tk4:=bT.keepR tk1 hR1 ((kp2.trans kp3).trans kp4)
 obtain⟨dn,en⟩:=hR4.nm.obj
 refine⟨_,rfl,R.r,_,_,_,_,rfl,hR4.ins,C,T.fh,rfl,R.N.n,dn,_,rfl,en,rfl,_,rfl,?_⟩
 refine rb hR4 .words tk4 rfl (t6 sm un) (by rw[mM sm rfl];exact hl) fun H5 hR5 kp5=>?_
 obtain⟨dt,ft,et,lt1,lt2,lt3,lt4,lt5⟩:=bT.keepR tk4 hR4 kp5
 have kp05:=(((kp1.trans kp2).trans kp3).trans kp4).trans kp5
 refine⟨_,rfl,y,_,dt,ft,_,rfl,et,T.bo.cl,T.bV,lt2,_,rfl,(by show 4<=sizeLine;decide),fun q hq=>fun x6 dx6 n6 nd6 ne6=>⟨x6,dx6,.ref q,.aw,rfl,az,fun H6 e6 kp6=>⟨rfl,?_⟩⟩⟩
 rw[Mn]at hR5
 have sm6:=aN.made n6 nd6 kp6
 have hR7:=hR5.same (aP (o:=.lst [.str "word",.str (strOf x),.str "=",v3]) hq)
 have kp7:=kp05.trans (bg (aP (o:=.lst [.str "word",.str (strOf x),.str "=",v3]) hq))
 have md5:=((md3.keep (Bw a 9) hR2.cells (kp4.trans kp5)).old ((kp1.trans kp2).grow hR2.cells)).wR
 have mp:Md (bQ a 10) H (upd H5 q (.lst [.str "word",.str (strOf x),.str "=",v3])) (.ref q) [ascii "word",x,ascii "=",LsWale.itemsText x2]:=by
  rw[Jl,BX]
  exact aE.list G (aE.cons G (bR (H0:=H) (H:=H5) (ascii "word")) (aE.cons G (bR x) (aE.cons G (bR (ascii "=")) (aE.cons G md5 aE.nil)))) hq (kp05.grow hR5.cells)
 refine kk _ _ {e3 with words:=e3.words++[x]} (show Ev e3 from w8 sm ev) e5 H6 _ (hR7.same sm6) (kp7.trans (bg sm6)) (Md.tR mp (kp7.grow hR7.cells) sm6 n6 e6 ?_)
 show LsWale.line 0 (ascii "word "++(x++(ascii " = "++(LsWale.itemsText x2++[59]))))=LsWale.line 0 ((ascii "word"++32::(x++32::(ascii "="++32::LsWale.itemsText x2)))++[59])
 rw[show ascii "word "=ascii "word"++[32]from rfl,show ascii " = "=32::(ascii "="++[32])from rfl]
 simp only[List.append_assoc,List.cons_append,List.nil_append]
end Wale
end
section
set_option Elab.async false
set_option linter.all false
set_option maxRecDepth 100000
set_option maxHeartbeats 2000000
namespace Wale
open PySem PySem.Spec PyProof.Rows L2
open Wm
open LsWale (ascii Fault eatSign eatWord eatOpen anyName newName oldName markName holdName wanted isName PLAINS)
variable {P:Program}{w:World}{K:PySem.W.Frag}{mg:Str->Option Value}{base:Heap}{a:Ad}
def jg(acc:List LsWale.Sum)(s:ah):Except Fault (List LsWale.Sum×ah):=if s.isSign ','=true then(i9 s.next>>=fun l=>.ok (acc++l.1,l.2))else .ok (acc,s)
theorem Fc{b:Bytes}{p:Nat}{e:aA}{acc:List LsWale.Sum}(h:(aa b p e).isSign ','=true):jg acc (aa b p e)=a6 .sum 0 (aa b (ay b p) e)>>=fun x=>jg (acc++[x.1]) x.2:=by
 unfold jg
 rw[if_pos h,cE (gd h),Bt,bL]
 refine aY rfl fun x s hx=>?_
 dsimp only
 by_cases c:s.isSign ','=true
 ·rw[if_pos c,if_pos c,bL]
  refine aY rfl fun y t hy=>?_
  show Except.ok (acc++x::y,t)=Except.ok (acc++[x]++y,t)
  rw[List.append_assoc];rfl
 ·rw[if_neg c,if_neg c];rfl
theorem Kr(s:ah):i9 s=a6 .sum 0 s>>=fun x=>jg [x.1] x.2:=by
 rw[Bt]
 rfl
theorem vQ{α:Type}{s:ah}{k pl:Nat}{acc:List LsWale.Sum}{f:List LsWale.Sum×ah->Except Fault (α×ah)}(h:HB s k pl)(hf:∀x,bF (f (x,s)) k pl):bF (jg acc s>>=f) k pl:=by
 unfold jg
 rw[if_neg (by rw[fP h];decide)]
 exact hf _
theorem Hg{e:aA}{n:Nat}(h:1<=n)(ev:Ev e):(n≠1/\n≠e.many)↔(n≠1/\n≠(e.sizes.getD []).length):=by
 unfold LsWale.Env.many
 cases e.sizes with
 |none=>simp;omega
 |some l=>rfl
theorem Eb(l:List ba):dF (l.map fun x=>[LsWale.sumText x])=LsWale.commas (l.map LsWale.sumText):=by
 unfold dF
 rw[List.map_map]
 rfl
theorem vV:aI ["reader","name","phrases"] ["reader"] (aD yJ):=⟨rfl,rfl,rfl,by decide +kernel,rfl,by decide +kernel,by decide +kernel⟩
theorem Ft(T:Tx P w K mg a):aB P w K mg base (a8 P w) 38 a.o2 a.oz ["reader"] (gD K a vK):=by
 refine aG.bq (k:=37) T.Aj.fn vV xo (fun cdv A outer s H vs Q E hr h=>?_)
 unfold gD at h
 obtain⟨b,R,p,e,rfl,hR,ev,hT,kk⟩:=h
 have C:=T.bC.cl
 have G:=cj a 9
 have GP:=cz a 9
 have G10:=cj a 10
 refine⟨_,ai (aW (i:=1) vV.nd rfl (Or.inl rfl) ((aV (pv 0) C T.ip.mt (tM T) (hr.mono (by omega)) T.ip.bd .nil au (ae (bB T.sj) ag))))
  (ai (a0 (aV (pv 0) C T.cH.mt (gR T) (hr.mono (by omega)) T.cH.bd .nil au (ae aQ ag))) (ai (aW (i:=2) vV.nd rfl (Or.inl rfl) (bK (ae (bK (ae (aS T.iJ (i5 T 9) hr au (ae (pv 0) ag)) ag)) ag)))
  (ai (fD gW (di (aV (pv 0) C T.dO.mt (iQ T) (hr.mono (by omega)) T.dO.bd .nil au (ae aQ ag))) (ak (a0 ((dQ PySem.F.plainAttrs_list PySem.F.slot_list_append PySem.F.type_list_append fU (pv 2) (ae (bK (ae (aS T.iJ (i5 T 9) hr au (ae (pv 0) ag)) ag)) ag))))))
  (ai (a0 (aV (pv 0) C T.cH.mt (gR T) (hr.mono (by omega)) T.cH.bd .nil au (ae aQ ag)))
  (ai (a7 (PW.pt (lI (a4 jC (mI wN (by rfl) T.gM PySem.boot_len (ae (pv 2) ag)) bN (aX _)) (pL (a4 jC (mI wN (by rfl) T.gM PySem.boot_len (ae (pv 2) ag)) ((aV (aH (pv 0) rfl) T.cu.cl T.eE.mt (r6 T) (hr.mono (by omega)) T.eE.bd .nil a3 (ae (bB T.xE) ag))) (aX _)))))
   (ak (eL rfl eP T.zr (Ku T) T.DI.2 (hr.mono (by omega)) (aH (pv 1) rfl))) bj)
  (ai (a0 ((aV (aH (pv 0) rfl) T.cu.cl T.iD.mt (yy T) (hr.mono (by omega)) T.iD.bd .nil a3 (ae (pv 1) (ae (bB T.sj) ag)))))
  (ak (aK (eA T.dC.dU (je T) (hr.mono (by omega)) rfl T.dC.at_ T.hZ.2 .nil a3 (ae (bK (ae aQ (ae (aH (pv 1) rfl) (ae aQ (ae (eA T.kN.dU (xm T) (hr.mono (by omega)) rfl T.kN.at_ T.sW.2 .nil a3 (ae (pv 2) ag)) ag))))) (ae iu ag))))))))))),?_⟩
 refine⟨_,rfl,R.r,_,_,rfl,hR.ins,rfl,?_⟩
 refine rS (k:=.eC) hR hT rfl rfl rfl (wG e) fun x hx un hl e1 H1 y hR1 kp1 tk1=>?_
 unfold cS at tk1
 rw[iT hx]at tk1
 refine⟨_,rfl,R.r,_,_,rfl,hR1.ins,rfl,?_⟩
 refine gy hR1 hT e1 (k:=fun e2 H2 z hR2 kp2 _=>⟨_,rfl,?_⟩)
 rw[Kr,bL]at e2
 have hbf:∀(x1:List LsWale.Sum)(s:ah)(k pl:Nat),HB s k pl->bF (eatSign ';' s>>=fun u=>(if x1.length≠1/\x1.length≠e.many then .error ⟨7,(aa b p e).place⟩else .ok (.let_ x x1,{u with env:={u.env with lets:=u.env.lets++[x]}}):Except Fault (LsWale.Head×ah))) k pl:=fun x1 s k pl hb=>kF hb
 refine bZ (m:=9) hR2 (by omega) (by omega) hT e2 (fun x s k pl hb=>vQ hb fun x1=>hbf x1 s k pl hb) fun x2 p2 e3 hS e4 H3 v3 hR3 kp3 md3=>⟨(by show 1<=sizeLine;decide),fun l1 hl1=>⟨(by show 1<=sizeLine;decide),fun l hl2=>?_⟩⟩
 have sm3:cQ e e3:=BN .sum 0 _ _ _ hS
 have kp02:=kp1.trans kp2
 have kp03:=kp02.trans kp3
 have g3:=kp03.grow hR3.cells
 have m1:Md (bQ a 9) H (upd H3 l1 (.lst [v3])) (.ref l1) [LsWale.sumText x2]:=aE.list G (aE.cons G (i3 (md3.old (kp02.grow hR2.cells))) aE.nil) hl1 g3
 have ml:=aE.list GP (aE.cons GP m1 aE.nil) hl2 (g3.trans qG)
 let I:List LsWale.Sum×Nat×aA->L2.St->Hp->Prop:=fun i σ H'=>σ=[some (.ref R.r),some (.ref y),some (.ref l)]/\1<=i.1.length/\aq a K b R i.2.1 0 (lst i.2.2) H'/\aC R H1 H'/\cQ e i.2.2/\
  vK (aa b p e)=(jg i.1 (aa b i.2.1 i.2.2)>>=fun x1=>eatSign ';' x1.2>>=fun u=>if x1.1.length≠1/\x1.1.length≠e.many then .error ⟨7,(aa b p e).place⟩else .ok (.let_ x x1.1,{u with env:={u.env with lets:=u.env.lets++[x]}}))/\
  Md (cI (bQ a 9)) H H' (.ref l) (i.1.map fun x=>[LsWale.sumText x])/\i.1.length+(toks b i.2.1).length<=(toks b (ay b (ay b p))).length
 let μ:List LsWale.Sum×Nat×aA->Nat:=fun i=>(toks b i.2.1).length
 have l0:=lh (g4 _ 0 _) hS
 refine fG I μ ([x2],p2,e3) ⟨rfl,Nat.le_refl _,(hR3.same (aP hl1)).same (aP hl2),((kp2.trans kp3).trans (bg (aP hl1))).trans (bg (aP hl2)),sm3,e4,ml,?_⟩ ?_
 ·show 1+(toks b p2).length<=_
  omega
 rintro⟨acc,p4,e5⟩ σ H4 ⟨rfl,hn,hR4,kp4,sm4,h4,ms,ln⟩
 dsimp only at hn hR4 h4 sm4 ms ln
 have sz:=oN hR.len (ay b (ay b p))
 refine⟨_,rfl,R.r,_,_,rfl,hR4.ins,rfl,?_⟩
 refine vZ (c:=',') (e:=e5) hR4 hT (fun k pl hb=>by rw[h4];exact vQ hb fun x1=>hbf x1 _ k pl hb) (fun c H5 hR5 kp5=>?_) (fun c nb H5 hR5 kp5=>?_)
 ·rw[Fc c,bL]at h4
  have ms5:=ms.keep (bW GP) hR.cells kp5
  obtain⟨hnl,vs5,el5,hlen5⟩:=ms5.cell
  refine⟨_,rfl,b5 ?_⟩
  refine fg (I:=I) (μ:=μ) (i:=(acc,p4,e5)) ?_
  refine⟨_,rfl,.inl ⟨rfl,_,aO.of el5⟩,_,rfl,?_⟩
  refine bZ (m:=9) hR5 (by omega) (by omega) hT h4 (fun x s k pl hb=>vQ hb fun x1=>hbf x1 s k pl hb) fun x6 p6 e6 hS6 h6 H6 v6 hR6 kp6 md6=>⟨(by show 1<=sizeLine;decide),fun l6 hl6=>?_⟩
  have kp05:=(kp1.trans kp4).trans kp5
  have m6:Md (bQ a 9) H5 (upd H6 l6 (.lst [v6])) (.ref l6) [LsWale.sumText x6]:=aE.list G (aE.cons G (i3 md6) aE.nil) hl6 (kp6.grow hR6.cells)
  have ms6:=(ms5.keep (bW GP) hR.cells kp6).same (bW GP) (aP (o:=.lst [v6]) hl6)
  obtain⟨_,vs6,el6,hlen6⟩:=ms6.cell
  have hR7:=hR6.same (aP (o:=.lst [v6]) hl6)
  have kp17:=((kp4.trans kp5).trans kp6).trans (bg (aP (o:=.lst [v6]) hl6))
  have lc:da H (upd H6 l6 (.lst [v6])) (upd (upd H6 l6 (.lst [v6])) l (.lst (vs6++[.ref l6]))) l:=eB hnl el6
  have l1:=lh (g4 _ 0 _) hS6
  have l2:=lC (gd c)
  rw[List.length_map]at hlen6
  have h1l:H1 l=none:=by
   cases q:H1 l with
   |none=>rfl
   |some o=>
    have:=((((kp2.trans kp3).trans (bg (aP (o:=.lst [v3]) hl1))).grow (hR3.same (aP hl1)).cells).none hl2)
    rw[this]at q;cases q
  refine⟨l,vs6,.ref l6,rfl,rfl,el6,by omega,(acc++[x6],p6,e6),?_,rfl,?_,hR7.bM hR lc,kp17.bM ⟨lc.keep,h1l,lc.lst,lc.grow⟩,sm4.trans (BN .sum 0 _ _ _ hS6),h6,?_,?_⟩
  ·show(toks b p6).length<(toks b p4).length
   omega
  ·show 1<=(acc++[x6]).length
   rw[List.length_append];omega
  ·show Md _ _ _ _ ((acc++[x6]).map fun x=>[LsWale.sumText x])
   rw[List.map_append]
   exact ms6.append GP el6 m6 (ez el5) (kp05.grow hR5.cells)
  ·show(acc++[x6]).length+(toks b p6).length<=_
   rw[List.length_append,List.length_singleton];omega
 have e6:vK (aa b p e)=eatSign ';' (aa b p4 e5)>>=fun u=>if acc.length≠1/\acc.length≠e.many then .error ⟨7,(aa b p e).place⟩else .ok (.let_ x acc,{u with env:={u.env with lets:=u.env.lets++[x]}}):=by
  rw[h4]
  unfold jg
  rw[if_neg (by rw[c];decide)]
  rfl
 refine⟨_,rfl,df ⟨_,rfl,R.r,_,_,rfl,hR5.ins,rfl,?_⟩⟩
 refine gy hR5 hT e6 (k:=fun e7 H6 z hR6 kp6 _=>?_)
 have tk6:=bT.keepR tk1 hR1 ((kp4.trans kp5).trans kp6)
 have hz:lst e5 .sizes=lst e .sizes:=mM sm4 rfl
 have mi:=Hg (e:=e) hn ev
 have ms6:=ms.keep (bW GP) hR.cells (kp5.trans kp6)
 obtain⟨_,vs6,el6,hlen6⟩:=ms6.cell
 rw[List.length_map]at hlen6
 have kp06:=kp1.trans ((kp4.trans kp5).trans kp6)
 have fin:¬(acc.length≠1/\acc.length≠e.many)->∀(H7 H8 H9:Hp)(q x8 dx8 x9 dx9:Addr),aq a K b R (ay b p4) 0 (de (lst e5) .eC x) H7->aC R H6 H7->aN H7 H8->H7 x8=none->H8 x8=some (.ins a.gK dx8 [("phrases",.ref l)])->H8 q=none->
   aN (upd H8 q (.lst [.str "let",.str (strOf x),.str "=",.ref x8])) H9->upd H8 q (.lst [.str "let",.str (strOf x),.str "=",.ref x8]) x9=none->H9 x9=some (.ins a.dG dx9 [("phrase",.ref q),("body",.aw)])->Q (.ref x9) H9:=fun hc H7 H8 H9 q x8 dx8 x9 dx9 hR7 kp7 sm8 n8 e8 hq sm9 n9 e9=>by
  rw[if_neg hc]at e7
  rw[Hd]at hR7
  have kp07:=kp06.trans kp7
  have g7:=kp07.grow hR7.cells
  have mL:=(Md.listed G (ms6.keep (bW GP) hR.cells kp7) g7 sm8 n8 e8).xP
  have hR8:=hR7.same sm8
  have kp08:=kp07.trans (bg sm8)
  have mp:Md (bQ a 10) H (upd H8 q (.lst [.str "let",.str (strOf x),.str "=",.ref x8])) (.ref q) [ascii "let",x,ascii "=",dF (acc.map fun x=>[LsWale.sumText x])]:=by
   rw[IG,BX]
   exact aE.list G10 (aE.cons G10 (bR (H0:=H) (H:=H8) (ascii "let")) (aE.cons G10 (bR x) (aE.cons G10 (bR (ascii "=")) (aE.cons G10 mL aE.nil)))) hq (kp08.grow hR8.cells)
  have hR8':=hR8.same (aP (o:=.lst [.str "let",.str (strOf x),.str "=",.ref x8]) hq)
  have kp8':=kp08.trans (bg (aP (o:=.lst [.str "let",.str (strOf x),.str "=",.ref x8]) hq))
  refine kk _ _ {e5 with lets:=e5.lets++[x]} (show Ev e5 from w8 sm4 ev) e7 H9 _ (hR8'.same sm9) (kp8'.trans (bg sm9)) (Md.tR mp (kp8'.grow hR8'.cells) sm9 n9 e9 ?_)
  rw[Eb]
  show LsWale.line 0 (ascii "let "++(x++(ascii " = "++(LsWale.commas (acc.map LsWale.sumText)++[59]))))=LsWale.line 0 ((ascii "let"++32::(x++32::(ascii "="++32::LsWale.commas (acc.map LsWale.sumText))))++[59])
  rw[show ascii "let "=ascii "let"++[32]from rfl,show ascii " = "=32::(ascii "="++[32])from rfl]
  simp only[List.append_assoc,List.cons_append,List.nil_append]
 obtain⟨dn,en⟩:=hR6.nm.obj
 refine⟨_,rfl,l,_,rfl,.inl (aO.of el6),rfl,_,rfl,?_⟩
 rw[fM,hlen6]
 by_cases c1:acc.length=1
 ·refine nV (by rw[c1];rfl) ?_
  refine df ?_
  refine⟨_,rfl,R.r,_,_,_,_,rfl,hR6.ins,C,T.fh,rfl,R.N.n,dn,_,rfl,en,rfl,_,rfl,?_⟩
  refine rb hR6 .eC tk6 rfl (t6 sm4 un) (by rw[mM sm4 rfl];exact hl) fun H7 hR7 kp7=>?_
  obtain⟨dt,ft,et,lt1,lt2,lt3,lt4,lt5⟩:=bT.keepR tk6 hR6 kp7
  refine⟨_,rfl,y,_,dt,ft,_,rfl,et,T.bo.cl,T.bV,lt2,_,rfl,fun x8 dx8 n8 nd8 ne8=>⟨x8,dx8,.ref l,rfl,az,fun H8 e8 kp8=>⟨rfl,(by show 4<=sizeLine;decide),fun q hq=>fun x9 dx9 n9 nd9 ne9=>⟨x9,dx9,.ref q,.aw,rfl,az,fun H9 e9 kp9=>⟨rfl,?_⟩⟩⟩⟩⟩
  exact fin (fun z=>z.1 c1) H7 H8 H9 q x8 dx8 x9 dx9 hR7 kp7 (aN.made n8 nd8 kp8) n8 e8 hq (aN.made n9 nd9 kp9) n9 e9
 ·rw[decide_eq_false (fun z=>c1 (by have z:((acc.length:Nat):Int)=1:=z;omega))]
  refine b5 ⟨_,rfl,l,_,rfl,.inl (aO.of el6),_,rfl,R.r,_,_,_,_,rfl,hR6.ins,C,T.fh,rfl,R.N.n,dn,_,rfl,en,rfl,?_⟩
  refine rj hR6 .sizes ⟨rfl,_,rfl,?_⟩
  rw[fM,hz,hlen6]
  by_cases c2:acc.length=(lst e .sizes).length
  ·refine nV (by rw[c2]) ?_
   refine⟨_,rfl,R.r,_,_,_,_,rfl,hR6.ins,C,T.fh,rfl,R.N.n,dn,_,rfl,en,rfl,_,rfl,?_⟩
   refine rb hR6 .eC tk6 rfl (t6 sm4 un) (by rw[mM sm4 rfl];exact hl) fun H7 hR7 kp7=>?_
   obtain⟨dt,ft,et,lt1,lt2,lt3,lt4,lt5⟩:=bT.keepR tk6 hR6 kp7
   refine⟨_,rfl,y,_,dt,ft,_,rfl,et,T.bo.cl,T.bV,lt2,_,rfl,fun x8 dx8 n8 nd8 ne8=>⟨x8,dx8,.ref l,rfl,az,fun H8 e8 kp8=>⟨rfl,(by show 4<=sizeLine;decide),fun q hq=>fun x9 dx9 n9 nd9 ne9=>⟨x9,dx9,.ref q,.aw,rfl,az,fun H9 e9 kp9=>⟨rfl,?_⟩⟩⟩⟩⟩
   exact fin (fun z=>(mi.mp z).2 c2) H7 H8 H9 q x8 dx8 x9 dx9 hR7 kp7 (aN.made n8 nd8 kp8) n8 e8 hq (aN.made n9 nd9 kp9) n9 e9
  ·rw[decide_eq_false (fun(z:((acc.length:Nat):Int)=((lst e .sizes).length:Nat))=>c2 (by omega))]
   rw[if_pos (mi.mpr ⟨c1,c2⟩)]at e7
   obtain⟨dt,ft,et,lt1,lt2,lt3,lt4,lt5⟩:=tk6
   refine b5 ⟨_,rfl,y,_,dt,ft,_,rfl,et,T.bo.cl,T.gf,lt4,d6 T.zr (hT.err ?_)⟩
   rw[e7,i8]
end Wale
end
section
set_option Elab.async false
set_option linter.all false
set_option maxRecDepth 100000
set_option maxHeartbeats 2000000
namespace Wale
open PySem PySem.Spec PyProof.Rows L2
open Wm
open LsWale (ascii Fault eatSign eatWord eatOpen anyName newName oldName markName holdName wanted isName PLAINS)
variable {P:Program}{w:World}{K:PySem.W.Frag}{mg:Str->Option Value}{base:Heap}{a:Ad}
section
variable {α:Type}{b:Bytes}{R:RA}{p:Nat}{e:aA}{H:Hp}{Q:VK}{E:XK}{g:Except Fault (LsWale.Head×ah)}
theorem Az{S:Nat->ah->Except Fault (LsWale.Head×ah)}{x:Addr}(hR:aq a K b R (ay b p) 0 (lst e) H)(tk:cS a b p H x)(ev:Ev e)(hT:Tl K a E g)(hg:g=S (aM b p) (aa b (ay b p) e))
  (kk:∀x p' e',Ev e'->g=.ok (x,aa b p' e')->∀(H':Hp)(v:V),aq a K b R p' 0 (lst e') H'->aC R H H'->Md (hX a) H H' v x->Q v H'):jd K a S [.ref R.r,.ref x] H Q E:=by
 subst hg
 unfold jd
 exact⟨b,R,p,e,x,rfl,hR,tk,ev,hT,kk⟩
theorem yH{S:ah->Except Fault (LsWale.Head×ah)}(hR:aq a K b R p 0 (lst e) H)(ev:Ev e)(hT:Tl K a E g)(hg:g=S (aa b p e))
  (kk:∀x p' e',Ev e'->g=.ok (x,aa b p' e')->∀(H':Hp)(v:V),aq a K b R p' 0 (lst e') H'->aC R H H'->Md (hX a) H H' v x->Q v H'):gD K a S [.ref R.r] H Q E:=by
 subst hg
 unfold gD
 exact⟨b,R,p,e,rfl,hR,ev,hT,kk⟩
end
@[irreducible] def jZ(K:PySem.W.Frag)(a:Ad):Sp:=fun vs H Q E=>∃(b:Bytes)(R:RA)(p:Nat)(e:aA)(g:Except Fault (LsWale.Head×ah)),vs=[.ref R.r]/\aq a K b R p 0 (lst e) H/\Ev e/\dN (aa b p e)=some g/\
 Tl K a E g/\∀x p' e',Ev e'->g=.ok (x,aa b p' e')->∀(H':Hp)(v:V),aq a K b R p' 0 (lst e') H'->aC R H H'->Md (hX a) H H' v x->Q v H'
theorem Lk{α:Type}{b:Bytes}{R:RA}{p:Nat}{e:aA}{H:Hp}{Q:VK}{E:XK}{g:Except Fault (LsWale.Head×ah)}{r:Except Fault (α×ah)}{f:LsWale.Head×ah->Except Fault (α×ah)}(hR:aq a K b R p 0 (lst e) H)(ev:Ev e)(hg:dN (aa b p e)=some g)(hT:Tl K a E r)(hr:r=g>>=f)(hB:∀x s k pl,HB s k pl->bF (f (x,s)) k pl)
  (kk:∀x p' e',Ev e'->g=.ok (x,aa b p' e')->r=f (x,aa b p' e')->∀(H':Hp)(v:V),aq a K b R p' 0 (lst e') H'->aC R H H'->Md (hX a) H H' v x->Q v H'):jZ K a [.ref R.r] H Q E:=by
 unfold jZ
 exact⟨b,R,p,e,g,rfl,hR,ev,hg,fun k pl h=>hT k pl (by rw[hr];exact h.bind fun x s hb=>hB x s k pl hb),fun x p' e' ev' hS=>kk x p' e' ev' hS (by rw[hr,hS];rfl)⟩
theorem Hl(vs:List V)(H:Hp)(Q:VK)(E:XK)(h:jZ K a vs H Q E):vs.length=1:=by
 unfold jZ at h
 obtain⟨_,_,_,_,_,rfl,_⟩:=h;rfl
theorem HF{vs:List V}{H:Hp}{Q:VK}{E:XK}(h:jZ K a vs H Q E):∃(b:Bytes)(R:RA)(p:Nat)(e:aA)(g:Except Fault (LsWale.Head×ah)),vs=[.ref R.r]/\aq a K b R p 0 (lst e) H/\Ev e/\dN (aa b p e)=some g/\
 Tl K a E g/\∀x p' e',Ev e'->g=.ok (x,aa b p' e')->∀(H':Hp)(v:V),aq a K b R p' 0 (lst e') H'->aC R H H'->Md (hX a) H H' v x->Q v H':=by unfold jZ at h;exact h
theorem Fq{b:Bytes}{p:Nat}{e:aA}{g:Except Fault (LsWale.Head×ah)}(h:dN (aa b p e)=some g):cv (aj b p)=true:=by
 by_cases c:cv (aj b p)=true
 ·exact c
 ·unfold dN fE at h
  simp only[w9 c]at h
  cases h
theorem Cm:aI ["reader","token"] ["reader"] (aD xh):=⟨rfl,rfl,rfl,by decide +kernel,rfl,by decide +kernel,by decide +kernel⟩
theorem FX(T:Tx P w K mg a):aB P w K mg base (a8 P w) 97 a.qk a.nI ["reader"] (jZ K a):=by
 refine aG.bq (k:=96) T.DH.fn Cm Hl (fun cdv A outer s H vs Q E hr h=>?_)
 obtain⟨b,R,p,e,g,rfl,hR,ev,hg,hT,kk⟩:=HF h
 have C:=T.bC.cl
 refine⟨_,ai (aW (i:=1) Cm.nd rfl (Or.inl rfl) (cq (pv 0) C T.cx.mt (iH T) (hr.mono (by omega)) T.cx.bd .nil au))
  (ai (a7 (a4 b9 (aH (pv 1) rfl) aQ (aX _)) (ak (aK (aS T.AK (Ep T) (hr.mono (by omega)) au (ae (pv 0) (ae (pv 1) ag))))) bj)
  (ai (a7 (a4 b9 (aH (pv 1) rfl) aQ (aX _)) (ak (aK (aS T.Bn (LI T) (hr.mono (by omega)) au (ae (pv 0) (ae (pv 1) ag))))) bj)
  (ai (a7 (a4 b9 (aH (pv 1) rfl) aQ (aX _)) (ak (aK (aS T.Aj (Ft T) (hr.mono (by omega)) au (ae (pv 0) ag)))) bj)
  (ai (a7 (a4 b9 (aH (pv 1) rfl) aQ (aX _)) (ak (aK (aS T.BP (Mp T) (hr.mono (by omega)) au (ae (pv 0) ag)))) bj)
  (ak (aK (aS T.zM (Jr T) hr au (ae (pv 0) ag)))))))),?_⟩
 have ht:=Fq hg
 have nx:=cE (e:=e) ht
 refine⟨_,rfl,R.r,_,_,rfl,hR.ins,rfl,?_⟩
 refine iA hR (sT ht) fun H1 x hR1 kp1 tk1=>?_
 have tk1':=tk1
 obtain⟨dt,ft,et,lt1,lt2,lt3,lt4,lt5⟩:=tk1
 have cl:=T.bo.cl
 have kk':∀x p' e',Ev e'->g=.ok (x,aa b p' e')->∀(H':Hp)(v:V),aq a K b R p' 0 (lst e') H'->aC R H1 H'->Md (hX a) H1 H' v x->Q v H':=fun x p' e' ev' hS H' v hR' kp' md'=>kk x p' e' ev' hS H' v hR' (kp1.trans kp') (md'.old (kp1.grow hR1.cells))
 unfold dN fE at hg
 rw[nx,i8]at hg
 refine⟨_,rfl,x,_,dt,ft,_,rfl,et,cl,T.bV,lt2,rfl,_,rfl,?_⟩
 rw[cA,ff (c:="sizes") e]
 refine aT (fun c=>?_) (fun c=>?_)
 ·rw[if_pos c]at hg
  refine⟨_,rfl,_,rfl,?_⟩
  refine Az hR1 tk1' ev hT ?_ kk'
  rw[<-Option.some.inj hg]
  unfold pf gB
  dsimp only
  by_cases c2:e.sizes.isSome=true\/e.lets≠[]
  ·rw[if_pos c2,if_pos c2]
  ·rw[if_neg c2,if_neg c2];simp only[bL];rfl
 rw[if_neg c]at hg
 refine⟨_,rfl,x,_,dt,ft,_,rfl,et,cl,T.bV,lt2,rfl,_,rfl,?_⟩
 rw[cA,ff (c:="yarns") e]
 refine aT (fun c=>?_) (fun c=>?_)
 ·rw[if_pos c]at hg
  refine⟨_,rfl,_,rfl,?_⟩
  refine Az hR1 tk1' ev hT ?_ kk'
  rw[<-Option.some.inj hg]
  unfold qB gB
  dsimp only
  by_cases c2:e.yarns.isSome=true
  ·rw[if_pos c2,if_pos c2]
  ·rw[if_neg c2,if_neg c2];simp only[bL];rfl
 rw[if_neg c]at hg
 refine⟨_,rfl,x,_,dt,ft,_,rfl,et,cl,T.bV,lt2,rfl,_,rfl,?_⟩
 rw[cA,ff (c:="let") e]
 refine aT (fun c=>?_) (fun c=>?_)
 ·rw[if_pos c]at hg
  refine⟨_,rfl,?_⟩
  refine yH hR1 ev hT ?_ kk'
  rw[<-Option.some.inj hg]
  rfl
 rw[if_neg c]at hg
 refine⟨_,rfl,x,_,dt,ft,_,rfl,et,cl,T.bV,lt2,rfl,_,rfl,?_⟩
 rw[cA,ff (c:="word") e]
 refine aT (fun c=>?_) (fun c=>?_)
 ·rw[if_pos c]at hg
  refine⟨_,rfl,?_⟩
  refine yH hR1 ev hT ?_ kk'
  rw[<-Option.some.inj hg]
  rfl
 rw[if_neg c]at hg
 by_cases c2:(aa b p e).isWord "block"=true
 ·rw[if_pos c2]at hg
  refine⟨_,rfl,?_⟩
  refine yH hR1 ev hT ?_ kk'
  rw[<-Option.some.inj hg]
  unfold AL gL
  simp only[bL]
  rfl
 ·rw[if_neg c2]at hg
  cases hg
theorem J5{b:Bytes}{p:Nat}(e:aA):dH (.str (bc (aj b p))) ((["sizes","yarns","let","word","block"]:List Str).map V.str)=(dN (aa b p e)).isSome:=by
 rw[in_words (e:=e) ["sizes","yarns","let","word","block"] (by decide +kernel) (by decide +kernel)]
 unfold dN fE
 simp only[List.any_cons,List.any_nil,Bool.or_false]
 by_cases h1:(aa b p e).isWord "sizes"=true
 ·simp[h1]
 by_cases h2:(aa b p e).isWord "yarns"=true
 ·simp[h1,h2]
 by_cases h3:(aa b p e).isWord "let"=true
 ·simp[h1,h2,h3]
 by_cases h4:(aa b p e).isWord "word"=true
 ·simp[h1,h2,h3,h4]
 by_cases h5:(aa b p e).isWord "block"=true
 ·simp[h1,h2,h3,h4,h5]
 ·simp[h1,h2,h3,h4,h5]
def gi(n:Bytes)(hs:List LsWale.Head)(x:LsWale.Stats×ah):Except Fault (LsWale.Pattern×ah):=match x.2.ts with
 |⟨_,.done⟩::_=>.ok (⟨n,hs,x.1⟩,x.2)
 |_=>wanted x.2
def i4(s:ah):Except Fault (LsWale.Pattern×ah):=eatWord "pattern" s>>=fun s=>anyName s>>=fun n=>eatSign ';' n.2>>=fun t=>jl t>>=fun h=>cD 0 h.2>>=fun x=>gi n.1 h.1 x
theorem zi(s:ah):sX s=(i4 s).map fun x=>(x.1,x.2.env):=by
 unfold sX i4
 cases eatWord "pattern" s with
 |error f=>rfl
 |ok s1=>
  simp only[ee]
  cases anyName s1 with
  |error f=>rfl
  |ok n=>
   simp only[ee]
   cases eatSign ';' n.2 with
   |error f=>rfl
   |ok t=>
    simp only[ee]
    cases jl t with
    |error f=>rfl
    |ok h=>
     simp only[ee]
     cases cD 0 h.2 with
     |error f=>rfl
     |ok x=>
      simp only[ee]
      obtain⟨xs,⟨ts,env⟩⟩:=x
      cases ts with
      |nil=>rfl
      |cons t r=>
       obtain⟨q,tk⟩:=t
       cases tk<;>rfl
theorem Ci(n:Bytes)(hs:List LsWale.Head)(x:LsWale.Stats)(b:Bytes)(p:Nat)(e:aA):gi n hs (x,aa b p e)=match aj b p with
  | .done=>.ok (⟨n,hs,x⟩,aa b p e)
  |_=>wanted (aa b p e):=by
 unfold gi
 dsimp only
 rw[tI]
 cases aj b p<;>rfl
theorem vT{n:Bytes}{hs:List LsWale.Head}{x:LsWale.Stats}{s:ah}{k pl:Nat}(h:HB s k pl):gi n hs (x,s)=.error ⟨k,pl⟩:=by
 unfold gi
 have q:=jF (α:=LsWale.Pattern×ah) h
 obtain⟨r,h⟩:=h
 dsimp only
 rw[h]
 exact q
def ja(n:Bytes)(hs:List LsWale.Head)(s:ah):Except Fault (LsWale.Pattern×ah):=jl s>>=fun h=>cD 0 h.2>>=fun x=>gi n (hs++h.1) x
theorem zH{n:Bytes}{hs:List LsWale.Head}{s:ah}{k pl:Nat}(h:HB s k pl):bF (ja n hs s) k pl:=by
 unfold ja
 rw[IQ h]
 show bF (cD 0 s>>=_) k pl
 rw[BG h]
 exact .inl (vT h)
theorem GD{n:Bytes}{hs:List LsWale.Head}{s:ah}{g:Except Fault (LsWale.Head×ah)}(h:dN s=some g):ja n hs s=g>>=fun x=>ja n (hs++[x.1]) x.2:=by
 unfold ja
 rw[yz,h]
 dsimp only
 simp only[bL]
 refine aY rfl fun x t hx=>?_
 refine aY rfl fun y u hy=>?_
 show(cD 0 u>>=fun x_1=>gi n (hs++x::y) x_1)=(cD 0 u>>=fun x_1=>gi n (hs++[x]++y) x_1)
 rw[List.append_assoc];rfl
theorem MO{n:Bytes}{hs:List LsWale.Head}{s:ah}(h:dN s=none):ja n hs s=cD 0 s>>=fun x=>gi n hs x:=by
 unfold ja
 rw[yz,h]
 show(cD 0 s>>=fun x=>gi n (hs++[]) x)=_
 rw[List.append_nil]
def Bb(a:Ad):Rep LsWale.Pattern:=fun H F v pt=>∃fs,cI (eM a 9) H F v fs/\dE (fs.flatMap fun f=>f 0)=LsWale.print pt
theorem Gi:("pattern":Str)=strOf (ascii "pattern"):=by decide +kernel
theorem EV{α:Type}{b:Bytes}{R:RA}{p d:Nat}{L:NL}{e:aA}{H:Hp}{Q:VK}{E:XK}{r:Except Fault (α×ah)}{f:Bytes×ah->Except Fault (α×ah)}(hR:aq a K b R p d L H)(hT:Tl K a E r)(hr:r=anyName (aa b p e)>>=f)
  (k:∀x,nameAt b p=some x->r=f (x,aa b (ay b p) e)->∀(H':Hp)(y:Addr),aq a K b R (ay b p) d L H'->aC R H H'->cS a b p H' y->Q (.ref y) H'):fR K a eQ [.ref R.r,.str "name"] H Q E:=by
 unfold fR
 refine⟨b,R,p,d,L,_,rfl,hR,hT.bt (e:=e) fun k pl h=>?_,fun nb ht=>?_,fun nb ht=>?_⟩
 ·rw[hr,qJ h];exact .inl rfl
 ·obtain⟨x,hx⟩:=fT.mp ht
  exact k x hx (by rw[hr,any_some hx];rfl)
 ·refine hT.want (f:=f) (e:=e) nb ?_
  rw[hr,any_none]
  cases hx:nameAt b p with
  |none=>rfl
  |some x=>exact absurd (fT.mpr ⟨x,hx⟩) ht
def HY(K:PySem.W.Frag)(a:Ad):Sp:=fun vs H Q E=>∃(b:Bytes)(R:RA),vs=[.ref R.r]/\aq a K b R 0 0 (lst .none_) H/\Tl K a E (i4 (aa b 0 .none_))/\(∀x s',i4 (aa b 0 .none_)=.ok (x,s')->∀(H':Hp)(v:V),aC R H H'->Md (Bb a) H H' v x->Q v H')
theorem vq:aI ["reader","name","stats"] ["reader"] (aD wO):=⟨rfl,rfl,rfl,by decide +kernel,rfl,by decide +kernel,by decide +kernel⟩
theorem kd_end{b:Bytes}{p:Nat}:eQ (aj b p)=("end":Str)↔aj b p=.done:=by
 cases aj b p with
 |word x=>
  refine⟨fun z=>?_,fun z=>by cases z⟩
  have z:dv x="end":=z
  unfold dv at z
  split at z<;>exact absurd z (by decide +kernel)
 |num n=>exact⟨fun z=>absurd z (by show ¬(("number":Str)="end");decide +kernel),fun z=>by cases z⟩
 |sign c=>exact⟨fun z=>absurd z (by show ¬(("fixed":Str)="end");decide +kernel),fun z=>by cases z⟩
 |bad k=>exact⟨fun z=>absurd z (by show ¬(("":Str)="end");decide +kernel),fun z=>by cases z⟩
 |done=>exact⟨fun _=>rfl,fun _=>rfl⟩
theorem GC(T:Tx P w K mg a):aB P w K mg base (a8 P w) 98 a.pP a.oU ["reader"] (HY K a):=by
 refine aG.bq (k:=97) T.Cq.fn vq (fun vs H Q E h=>?_) (fun cdv A outer s H vs Q E hr h=>?_)
 ·obtain⟨_,_,rfl,_⟩:=h;rfl
 obtain⟨b,R,rfl,hR,hT,kk⟩:=h
 have C:=T.bC.cl
 have G:=cj a 10
 have GS:=iS a 9
 refine⟨_,ai (a0 (aV (pv 0) C T.cH.mt (gR T) (hr.mono (by omega)) T.cH.bd .nil au (ae aQ ag))) (ai (aW (i:=1) vq.nd rfl (Or.inl rfl) ((aV (pv 0) C T.fb.mt (xZ T) (hr.mono (by omega)) T.fb.bd .nil au (ae (bB T.jj) ag)))) (ai (a0 (aV (pv 0) C T.cH.mt (gR T) (hr.mono (by omega)) T.cH.bd .nil au (ae aQ ag)))
  (ai (aW (i:=2) vq.nd rfl (Or.inl rfl) (bK (ae (eA T.dC.dU (je T) (hr.mono (by omega)) rfl T.dC.at_ T.hZ.2 .nil a3 (ae (bK (ae aQ (ae (aH (pv 1) rfl) ag))) (ae iu ag))) ag)))
  (ai (fD gW (kP T.L7 (aH (cq (pv 0) C T.bU.mt (gH T) (hr.mono (by omega)) T.bU.bd .nil au) rfl)) (ak (a0 ((dQ PySem.F.plainAttrs_list PySem.F.slot_list_append PySem.F.type_list_append fU (pv 2) (ae (aS T.DH (FX T) hr au (ae (pv 0) ag)) ag))))))
  (ai (a0 ((dQ PySem.F.plainAttrs_list PySem.F.slot_list_extend PySem.F.type_list_extend nX (pv 2) (ae (aS T.uR (uy T 9) hr au (ae (pv 0) ag)) ag)))) (ai (a0 ((aV (pv 0) C T.fb.mt (xZ T) (hr.mono (by omega)) T.fb.bd .nil au (ae (bB T.Ah) ag)))) (ak (aK (pv 2))))))))),?_⟩
 refine⟨_,rfl,R.r,_,_,rfl,hR.ins,rfl,?_⟩
 refine Aa hR hT rfl (k:=fun e1 H1 x1 hR1 kp1 _=>?_)
 refine⟨_,rfl,R.r,_,_,rfl,hR1.ins,rfl,?_⟩
 refine EV hR1 hT e1 fun n hnm e2 H2 y hR2 kp2 tk2=>?_
 unfold cS at tk2
 rw[iT hnm]at tk2
 refine⟨_,rfl,R.r,_,_,rfl,hR2.ins,rfl,?_⟩
 refine gy hR2 hT e2 (k:=fun e3 H3 x3 hR3 kp3 _=>?_)
 obtain⟨dt,ft,et,lt1,lt2,lt3,lt4,lt5⟩:=bT.keepR tk2 hR2 kp3
 have kp03:=(kp1.trans kp2).trans kp3
 refine⟨_,rfl,y,_,dt,ft,_,rfl,et,T.bo.cl,T.bV,lt2,(by show 2<=sizeLine;decide),fun q hq=>fun x6 dx6 n6 nd6 ne6=>⟨x6,dx6,.ref q,.aw,rfl,az,fun H6 e6 kp6=>⟨rfl,(by show 1<=sizeLine;decide),fun l hl=>?_⟩⟩⟩
 have sm6:=aN.made n6 nd6 kp6
 have hR5:=hR3.same (aP (o:=.lst [.str "pattern",.str (strOf n)]) hq)
 have kp5:=kp03.trans (bg (aP (o:=.lst [.str "pattern",.str (strOf n)]) hq))
 have mp:Md (bQ a 10) H (upd H3 q (.lst [.str "pattern",.str (strOf n)])) (.ref q) [ascii "pattern",n]:=by
  rw[Gi]
  exact aE.list G (aE.cons G (bR (H0:=H) (H:=H3) (ascii "pattern")) (aE.cons G (bR n) aE.nil)) hq (kp03.grow hR3.cells)
 have m0:=Md.um (n:=9) mp (kp5.grow hR5.cells) sm6 n6 e6
 have hR6:=hR5.same sm6
 have kp6':=kp5.trans (bg sm6)
 have ml:=aE.list GS (aE.cons GS m0 aE.nil) hl (kp6'.grow hR6.cells)
 let I:List LsWale.Head×Nat×aA->L2.St->Hp->Prop:=fun i σ H'=>σ=[some (.ref R.r),some (.ref y),some (.ref l)]/\aq a K b R i.2.1 0 (lst i.2.2) H'/\aC R H H'/\Ev i.2.2/\i4 (aa b 0 .none_)=ja n i.1 (aa b i.2.1 i.2.2)/\
  ∃fs,Md (cI (eM a 9)) H H' (.ref l) fs/\dE (fs.flatMap fun f=>f 0)=LsWale.line 0 (ascii "pattern "++(n++[59]))++i.1.flatMap LsWale.headText/\fs.length+(toks b i.2.1).length<=20002
 let μ:List LsWale.Head×Nat×aA->Nat:=fun i=>(toks b i.2.1).length
 have tl:=toks_le b
 have bl:=hR.len
 have sz:sizeLine=16777216:=by decide
 refine fG I μ ([],_,_) ⟨rfl,hR6.same (aP hl),kp6'.trans (bg (aP hl)),⟨(fun z=>by cases z),(fun z=>by cases z)⟩,e3,_,ml,?_,?_⟩ ?_
 ·show(LsWale.indent 0++((ascii "pattern"++32::n)++[59]))++[10]++[]=LsWale.line 0 (ascii "pattern "++(n++[59]))++[]
  unfold LsWale.line
  rw[show ascii "pattern "=ascii "pattern"++[32]from rfl]
  simp only[List.append_assoc,List.cons_append,List.nil_append,List.append_nil]
 ·have:=tl (ay b (ay b (ay b 0)))
  show 1+(toks b (ay b (ay b (ay b 0)))).length<=20002
  omega
 rintro⟨hs,p4,e4⟩ σ H4 ⟨rfl,hR4,kp4,ev4,h4,fs,ms,tx,ln⟩
 dsimp only at hR4 h4 ev4 tx ln
 refine uD (e:=e4) T rfl hR4 hT (fun k pl hb=>by rw[h4];exact zH hb) fun nb H5 hR5 kp5=>?_
 have ms5:=ms.keep (bW GS) hR.cells kp5
 obtain⟨hnl,vs5,el5,hlen5⟩:=ms5.cell
 have kp05:=kp4.trans kp5
 rw[J5 e4]
 cases hh:dN (aa b p4 e4)with
 |some g=>
  rw[GD hh]at h4
  refine b5 ?_
  refine fg (I:=I) (μ:=μ) (i:=(hs,p4,e4)) ?_
  refine⟨_,rfl,.inl ⟨rfl,_,aO.of el5⟩,_,rfl,?_⟩
  refine Lk hR5 ev4 hh hT h4 (fun x s k pl hb=>zH hb) fun x' p6 e6 ev6 hS6 h6 H6 v6 hR6 kp6 md6=>?_
  have ms6:=ms5.keep (bW GS) hR.cells kp6
  obtain⟨_,vs6,el6,hlen6⟩:=ms6.cell
  obtain⟨F6,⟨f6,hf6,ef6⟩,sn6⟩:=md6
  have lc:da H H6 (upd H6 l (.lst (vs6++[v6]))) l:=eB hnl el6
  have l1:=lh (CB hh) hS6
  refine⟨l,vs6,v6,rfl,rfl,el6,by omega,(hs++[x'],p6,e6),l1,rfl,hR6.bM hR lc,(kp05.trans kp6).bM lc,ev6,h6,fs++[f6],ms6.append GS el6 ⟨F6,hf6,sn6⟩ (ez el5) (kp05.grow hR5.cells),?_,?_⟩
  ·show dE ((fs++[f6]).flatMap fun f=>f 0)=_++(hs++[x']).flatMap LsWale.headText
   rw[List.flatMap_append,rJ,tx,List.flatMap_append,List.append_assoc]
   show _++(_++dE (f6 0++[]))=_++(_++(LsWale.headText x'++[]))
   rw[List.append_nil,List.append_nil,ef6]
  ·show(fs++[f6]).length+(toks b p6).length<=_
   rw[List.length_append,List.length_singleton];omega
 |none=>
  rw[MO hh]at h4
  refine df ⟨_,rfl,.inl ⟨rfl,_,aO.of el5⟩,_,rfl,?_⟩
  refine bZ (m:=9) hR5 (by omega) (by omega) hT h4 (fun x s k pl hb=>.inl (vT hb)) fun x7 p7 e7 hS7 h7 H7 v7 hR7 kp7 md7=>?_
  have ms7:=ms5.keep (bW GS) hR.cells kp7
  obtain⟨_,vs7,el7,hlen7⟩:=ms7.cell
  obtain⟨F7,⟨gs,hgs,egs,lgs⟩,sn7⟩:=md7
  have mgs:Md (cI (eM a 9)) H5 H7 v7 gs:=⟨F7,hgs,sn7⟩
  obtain⟨l7,rfl⟩:=mgs.ref
  obtain⟨_,ws7,em7,hlem7⟩:=mgs.cell
  have lc7:da H H7 (upd H7 l (.lst (vs7++ws7))) l:=eB hnl el7
  have ms8:=ms7.extend GS el7 mgs em7 (ez el5) (kp05.grow hR5.cells)
  have hR8:=hR7.bM hR lc7
  have kp08:=(kp05.trans kp7).bM lc7
  refine⟨l,l7,vs7,ws7,rfl,rfl,el7,em7,by omega,_,rfl,R.r,_,_,rfl,hR8.ins,rfl,?_⟩
  refine BQ hR8 (hT.bt (e:=e7) fun k pl hb=>.inl (by rw[h7];exact vT hb)) (fun nb hk H9 y9 hR9 kp9 _=>?_) (fun nb hk=>?_)
  ·have hd:=kd_end.mp hk
   refine⟨_,rfl,kk ⟨n,hs,x7⟩ (aa b p7 e7) ?_ H9 _ (kp08.trans kp9) ?_⟩
   ·rw[h7,Ci,hd]
   ·refine(ms8.keep (bW GS) hR.cells kp9).map fun F q=>⟨_,q,?_⟩
    rw[List.flatMap_append,rJ,tx,egs 0]
    show _=LsWale.line 0 (ascii "pattern "++(n++[59]))++(hs.flatMap LsWale.headText++LsWale.statsText 0 x7)
    rw[List.append_assoc]
  ·refine hT.err ?_
   rw[h7,Ci]
   have hnd:aj b p7≠ .done:=fun z=>hk (kd_end.mpr z)
   cases q:aj b p7 with
   |done=>exact absurd q hnd
   |bad k=>exact absurd q (nb k)
   |_=>exact eY nb
end Wale
end
section
set_option Elab.async false
set_option linter.all false
set_option maxRecDepth 100000
set_option maxHeartbeats 2000000
namespace Wale
open PySem PySem.Spec PyProof.Rows L2
open Wm
open LsWale (Fault)
variable {P:Program}{w:World}{K:PySem.W.Frag}{mg:Str->Option Value}{base:Heap}{a:Ad}
theorem G4:lst .none_=BD:=by funext j;cases j<;>rfl
theorem Bk{K:PySem.W.Frag}{H H':Hp}{t x C dx:Addr}{fs:List (Str×V)}{xs:List V}(h:aO K H t xs)(e:H x=some (.ins C dx fs))(k:∀b o,H b=some o->b≠x->H' b=some o):aO K H' t xs:=by
 rcases h with (h|⟨o,h⟩)|h
 ·exact .inl (.inl (k _ _ h (bI h e (fun z=>nomatch z))))
 ·exact .inl (.inr ⟨o,k _ _ h (bI h e (fun z=>nomatch z))⟩)
 ·exact .inr h
def Kw(K:PySem.W.Frag)(a:Ad):Sp:=fun vs H Q _=>∃(x dx t:Addr)(b:Bytes),vs=[.ref x,.ref t]/\H x=some (.ins a.a9 dx [])/\aO K H t (nums b)/\b.length<=20000/\
 ∀(H':Hp)(R:RA),R.r=x->aq a K b R 0 0 (lst .none_) H'->(∀b o,H b=some o->b≠x->H' b=some o)->Q .aw H'
theorem JO:aI ["self","t"] ["self","t"] (aD vx):=⟨rfl,rfl,rfl,by decide +kernel,rfl,by decide +kernel,by decide +kernel⟩
theorem FF(T:Tx P w K mg a):aB P w K mg base bx 3 a.kz a.k7 ["self","t"] (Kw K a):=by
 refine T.Dg.1.ok JO (fun vs H Q E h=>?_) (fun cdv A outer s H vs Q E hr h=>?_)
 ·obtain⟨_,_,_,_,rfl,_⟩:=h;rfl
 obtain⟨x,dx,t,b,rfl,hx,hS,hl,q⟩:=h
 refine⟨_,ai (cU (pv 0) (pv 1) rfl) (ai (cU (pv 0) iu rfl) (ai (cU (pv 0) bN rfl) (ai (cU (pv 0) bN rfl)
  (ak (cU (pv 0) (Gm T.cu.dU (Lx T) hr rfl T.cu.at_ T.Dk.2 .nil a3) rfl))))),?_⟩
 have C:=T.bC.cl
 refine⟨_,rfl,_,rfl,x,_,dx,_,rfl,hx,C,T.BI,(by show 0<1000;decide),?_⟩
 refine⟨_,rfl,x,_,dx,_,rfl,az,C,T.lV,(by show 1<1000;decide),?_⟩
 refine⟨_,rfl,x,_,dx,_,rfl,az,C,T.yB,(by show 2<1000;decide),?_⟩
 refine⟨_,rfl,x,_,dx,_,rfl,az,C,T.rn,(by show 3<1000;decide),?_⟩
 generalize hH4:upd (upd (upd (upd H x _) x _) x _) x _=H4
 have e4:H4 x=some (.ins a.a9 dx [("source",.ref t),("ahead",.aw),("after",.int 0),("depth",.int 0)]):=by rw[<-hH4];exact az
 have k4:∀b o,H b=some o->b≠x->H4 b=some o:=fun b o e hb=>by rw[<-hH4,ao hb,ao hb,ao hb,ao hb];exact e
 intro n dn nn nd ne
 refine⟨n,dn,rfl,az,fun H5 N en nm k5=>⟨rfl,?_⟩⟩
 have s5:aN H4 H5:=aN.made nn nd k5
 refine⟨_,rfl,x,_,dx,_,rfl,s5 _ _ e4,C,T.fh,(by show 4<1000;decide),?_⟩
 obtain⟨k1,e1,t1⟩:=nm.fJ
 obtain⟨k2,e2,t2⟩:=nm.gI
 obtain⟨k3,e3,t3⟩:=nm.fL
 obtain⟨d0,e0⟩:=nm.obj
 have ex:=s5 _ _ e4
 have nx:N.n≠x:=by
  rw[en]
  exact fun z=>by rw[z,e4]at nn;cases nn
 subst en
 refine q _ ⟨x,t,N⟩ rfl ⟨⟨dx,.aw,az,.inl rfl⟩,?_,?_,hl,Nat.zero_le _⟩ fun c o ec hc=>?_
 ·exact Bk hS hx fun c o ec hc=>by rw[ao hc];exact s5 _ _ (k4 c o ec hc)
 ·rw[G4]
  refine⟨⟨d0,?_⟩,⟨k1,?_,t1⟩,⟨k2,?_,t2⟩,⟨k3,?_,t3⟩,nm.ne,nm.bd⟩
  ·rw[ao nx];exact e0
  ·rw[ao (bI e1 ex (fun z=>nomatch z))];exact e1
  ·rw[ao (bI e2 ex (fun z=>nomatch z))];exact e2
  ·rw[ao (bI e3 ex (fun z=>nomatch z))];exact e3
 ·rw[ao hc];exact s5 _ _ (k4 c o ec hc)
def Ef(K:PySem.W.Frag)(a:Ad):Sp:=fun vs H Q E=>∃(t:Addr)(b:Bytes),vs=[.ref t]/\aO K H t (nums b)/\b.length<=20000/\(∀k pl:Nat,LsWale.readAll b=.error ⟨k,pl⟩->Told K a E k pl)/\(∀x e,LsWale.readAll b=.ok (x,e)->∀(H':Hp)(v:V)(H0:Hp),(∀t' xs,aO K H t' xs->aO K H' t' xs)->Md (Bb a) H0 H' v x->Q v H')
theorem HK:aI ["t"] ["t"] (aD wA):=⟨rfl,rfl,rfl,by decide +kernel,rfl,by decide +kernel,by decide +kernel⟩
theorem K5{b:Bytes}{k pl:Nat}(h:bF (i4 (aa b 0 .none_)) k pl):i4 (aa b 0 .none_)=.error ⟨k,pl⟩:=by
 rcases h with h|⟨x,s,h,hb⟩
 ·exact h
 ·exfalso
  unfold i4 at h
  have step:∀{α β:Type}{r:Except Fault α}{f:α->Except Fault β}{y:β},(r>>=f)=.ok y->∃z,r=.ok z/\f z=.ok y:=fun{α β r f y}q=>by
   cases r with
   |error f=>cases q
   |ok z=>exact⟨z,rfl,q⟩
  obtain⟨s1,_,h⟩:=step h
  obtain⟨n,_,h⟩:=step h
  obtain⟨t,_,h⟩:=step h
  obtain⟨hs,_,h⟩:=step h
  obtain⟨⟨x2,⟨ts,en⟩⟩,_,h⟩:=step h
  obtain⟨rr,hb⟩:=hb
  unfold gi at h
  cases ts with
  |nil=>cases h
  |cons tk r=>
   obtain⟨q,tt⟩:=tk
   cases tt with
   |done=>cases h;cases hb
   |_=>cases h
theorem Fs(T:Tx P w K mg a):aB P w K mg base (a8 P w) 99 a.nY a.nP ["t"] (Ef K a):=by
 refine aG.bq (k:=98) T.CP.fn HK (fun vs H Q E h=>?_) (fun cdv A outer s H vs Q E hr h=>?_)
 ·obtain⟨_,_,rfl,_⟩:=h;rfl
 obtain⟨t,b,rfl,hS,hl,k1,k2⟩:=h
 refine⟨_,ai (a7 (a4 jf (kR T.gM (pv 0)) (cy T.CG) (aX _)) (ak (eL rfl eP T.ji (tf T) T.qc.2 (hr.mono (by omega)) (cy T.CG))) bj)
  (ak (aK (aS T.Cq (GC T) hr au (ae (eA T.bC.dU (FF T) (hr.mono (by omega)) rfl T.bC.at_ T.Dg.2 .nil a3 (ae (pv 0) ag)) ag)))),?_⟩
 refine⟨_,rfl,t,_,rfl,.inl hS,_,_,rfl,rfl,_,rfl,?_⟩
 rw[eK]
 refine aT (fun c=>?_) (fun c=>?_)
 ·have c':LsWale.MOST<b.length:=by have:=of_decide_eq_true c;show 16384<b.length;omega
  exact d6 T.ji (k1 6 16384 (by unfold LsWale.readAll;rw[if_pos c'];rfl))
 have c':b.length<=LsWale.MOST:=by
  have:¬((16384:Int)<b.length):=fun z=>c (decide_eq_true z)
  show b.length<=16384
  omega
 refine⟨_,rfl,fun x dx nx nd ne=>?_⟩
 have s1:aN H (upd (upd H dx (.own x)) x (.ins a.a9 dx [])):=fun c o ec=>by rw[ao (eS ec nx),ao (eS ec nd)];exact ec
 refine⟨x,dx,t,b,rfl,az,s1.seq hS,hl,fun H' R er hR kp=>⟨rfl,b,R,(by rw[er];rfl),hR,fun k pl hb=>k1 k pl ?_,fun p s' hx H2 v kp2 md=>k2 p s'.env ?_ H2 v H' ?_ md⟩⟩
 ·rw[AA c',zi,K5 hb];rfl
 ·rw[AA c',zi,hx];rfl
 ·intro t' xs hq
  exact aO.keepR (Bk (s1.seq hq) az kp) hR kp2
end Wale
end
section
set_option Elab.async false
set_option linter.all false
set_option maxRecDepth 100000
set_option maxHeartbeats 2000000
namespace L2
open PySem PySem.Spec PyProof.Rows
structure yA(k:Nat)(A:Around):Prop where
 dp:A.depth+3*k+5<recursionLimit
 un:A.units+16*k+200<cLine
def xw(pn:List (Addr×Obj))(outer:List Env)(s:Shared)(H:Hp):Prop:=∀p∈pn,s.heap.get? p.1=some p.2/\H p.1=none/\p.1∉ck outer/\∀v,p.2.data≠ .cell v
structure rO(P:Program)(w:World)(K:PySem.W.Frag)(mg:Str->Option Value)(base:Heap)(k:Nat)(f:Addr)(fd:FuncData)(ps:List Str)(sp:List (Addr×Obj)->Sp):Prop where
 len:∀pn vs H Q E,sp pn vs H Q E->vs.length=ps.length
 run:∀(A:Around)(outer:List Env)(s:Shared)(H:Hp)(args:Args)(us:List Value)(vs:List V)(Q:VK)(pn:List (Addr×Obj)),yA k A->fm P w K mg base A outer s H->xw pn outer s H->BindsTo s fd args (ps.zip us)->aF vs us->sp pn vs H Q E0->
  codeAny (model P w) A (.call (.ref f) args) (CR bx outer P w H s Q E0) s
abbrev pG(P:Program)(w:World)(K:PySem.W.Frag)(mg:Str->Option Value)(base:Heap)(N:List Str)(qual:Str)(scope:Scope)(f:Addr)(cd:Value)(A:Around)(outer:List Env)(s:Shared)(H:Hp)(pn:List (Addr×Obj)):Cx:=
 {fA bx P w K mg base N qual scope f cd A outer s H E0 with calm:=false,pn:=pn}
theorem Gd{P:Program}{w:World}{K:PySem.W.Frag}{mg:Str->Option Value}{base:Heap}{N ps:List Str}{qual:Str}{scope:Scope}{f:Addr}{cd:Value}{A:Around}{outer:List Env}{s s1:Shared}{H:Hp}{us:List Value}{vs:List V}{pn:List (Addr×Obj)}
  (S:aI N ps scope) (e0:fm P w K mg base A outer s H) (hp:xw pn outer s H) (hl:vs.length=ps.length) (r:aF vs us)
  (x:InCallC s s.heap.objs.size (bindL (envOfC qual scope s.heap.objs.size f cd).kindOf (ps.zip us) fun _=>none) (cellsFrom (s.heap.objs.size+1) scope.names []) (bindC (envOfC qual scope s.heap.objs.size f cd).kindOf (ps.zip us) fun _=>none) s1):
  Inv (pG P w K mg base N qual scope f cd A outer s H pn) [] (start N vs) H s1:=by
 have e1:fm P w K mg base {A with handled:=none} outer s H:=⟨e0.frames,e0.mod,e0.bs,e0.dR,e0.dq,e0.fB,e0.ax,e0.bare⟩
 have I:=zd (CX:=bx) (E:=E0) S (A:={A with handled:=none}) rfl e1 hl r x
 have hk:=x.toInCall.keep
 refine⟨⟨I.ok.mod,I.ok.kind,I.ok.glob,I.ok.blt,I.ok.above,I.ok.inj,I.ok.has,I.ok.ia,(fun z=>by cases z),Around.frames_deeper e0.frames,I.ok.iE,I.ok.js,I.ok.bs,I.ok.dR,I.ok.ic,I.ok.iO,I.ok.dq,I.ok.fB⟩,
  I.os,I.bare,I.base,I.loc,I.cell,I.free,I.dA,fun p hpp=>?_,I.ax,I.len⟩
 have hpn:p∈pn:=by
  have:p∈pn++[]:=hpp
  rwa [List.append_nil]at this
 obtain⟨h1,h2,h3,h4⟩:=hp p hpn
 exact⟨hk _ _ h1,h2,Nat.ne_of_lt (Heap.lt_size h1),h3,h4⟩
theorem ML{P:Program}{w:World}{K:PySem.W.Frag}{mg:Str->Option Value}{base:Heap}{k:Nat}{f:Addr}{name qual:Str}{params:Arguments}{body:List Stmt}{scope:Scope}{dV kV doc pm cdv ct oc:Value}{an od:Option Addr}
  {osl:Array (Option Value)} {N ps:List Str} {sp:List (Addr×Obj)->Sp} (lk:K.lookup f=some ⟨oc,od,.func (PySem.W.fnOf name qual params body scope dV kV doc pm an cdv ct),osl⟩) (hcd:PySem.W.codeIn K cdv qual=true) (S:aI N ps scope)
  (len:∀pn vs H Q E,sp pn vs H Q E->vs.length=ps.length)
  (hbody:∀(A:Around)(outer:List Env)(s:Shared)(H:Hp)(vs:List V)(Q:VK)(pn:List (Addr×Obj)),sp pn vs H Q E0->
   ∃t,dI (pG P w K mg base N qual scope f cdv A outer s H pn) body t/\t {nx:=fun _ H'=>Q .aw H',rt:=Q} (start N vs) H):
  rO P w K mg base (k+1) f (PySem.W.fnOf name qual params body scope dV kV doc pm an cdv ct) ps sp:=by
 refine⟨len,fun A outer s H args us vs Q pn hr e0 hp hb r hsp=>?_⟩
 have hl:=len _ _ _ _ _ hsp
 have KX:K.In s.heap:=e0.mod.iL.keeps fun b o e=>(e0.bs b o e).1
 have lim:s.heap.NoLimit:=e0.mod.nolimit.keeps fun b o e=>(e0.bs b o e).1
 have hkind:∀y∈ps.zip us,scope.names.lookup y.1=some .local\/(scope.names.lookup y.1=some .cell/\((cellsFrom (s.heap.objs.size+1) scope.names []).lookup y.1).isSome=true):=fun⟨n,v⟩hy=>by
  rcases S.par n (List.of_mem_zip hy).1 with q|q
  ·exact .inl q
  ·exact .inr ⟨q,PySem.W.cellsFrom_some _ _ _ (.inl q)⟩
 refine codeAny_call_function (by have:=hr.dp;omega) (KX _ _ lk) rfl S.co S.gen rfl (PySem.W.codeRec_of KX hcd) (hb _ _ _ _ ?_)
 refine wpAny_newFunctionEnv_cells S.kind hkind fun env he s1 x=>?_
 subst he
 refine⟨lim.keeps x.toInCall.keep,codeAny_func ?_⟩
 obtain⟨t,ht,hq⟩:=hbody A outer s H vs Q pn hsp
 have I:Inv (pG P w K mg base N qual scope f cdv A outer s H pn) [] (start N vs) H s1:=Gd S e0 hp hl r x
 refine wpAny_mono (ht [] s1 (start N vs) H _ I hq) (fun fl s' hs=>?_) fun e s' hs=>hs
 have fin:∀{σ':St}{H':Hp}{v:V}{u:Value},Inv (pG P w K mg base N qual scope f cdv A outer s H pn) [] σ' H' s'->RelV v u->Q v H'->CE outer P w H s Q u s':=
  fun{σ' H' v u}J rv q=>⟨v,H',J.os,J.bare,J.base,J.ax,rv,q⟩
 cases fl with
 |ret u=>
  obtain⟨v,σ',H',J,rv,q⟩:=hs
  exact fin J rv q
 |next=>
  obtain⟨σ',H',J,q⟩:=hs
  exact fin (v:=V.aw) (u:=Value.none) J rfl q
 |brk=>
  obtain⟨_,_,_,q⟩:=hs
  exact False.elim q
 |cont=>
  obtain⟨_,_,_,q⟩:=hs
  exact False.elim q
theorem aG.Ly{P:Program}{w:World}{K:PySem.W.Frag}{mg:Str->Option Value}{base:Heap}{x qual:Str}{st:Stmt}{f:Addr}{fd:FuncData}{N ps:List Str}{k:Nat}{sp:List (Addr×Obj)->Sp}(F:aG K x qual st f fd)(S:aI N ps (aD st))(len:∀pn vs H Q E,sp pn vs H Q E->vs.length=ps.length)
  (hbody:∀(cdv:Value)(A:Around)(outer:List Env)(s:Shared)(H:Hp)(vs:List V)(Q:VK)(pn:List (Addr×Obj)),sp pn vs H Q E0->
   ∃t,dI (pG P w K mg base N qual (aD st) f cdv A outer s H pn) (gN st) t/\t {nx:=fun _ H'=>Q .aw H',rt:=Q} (start N vs) H):rO P w K mg base (k+1) f fd ps sp:=by
 obtain⟨oc,od,kV,doc,pm,an,cdv,ct,osl,rfl,lk,hcd⟩:=F.ex
 exact ML lk hcd S len fun A outer s H vs Q pn hsp=>hbody cdv A outer s H vs Q pn hsp
def IU(sp:List (Addr×Obj)->Sp)(pn:List (Addr×Obj))(t:TA):TE:=fun σ H Q=>t σ H fun vs H1=>sp pn vs H1 Q E0
theorem Li{X:Cx}{k:Nat}{f:Addr}{fd:FuncData}{ps:List Str}{sp:List (Addr×Obj)->Sp}{x:Str}{p pos:Pos}{e:Expr}{es:List Expr}{t:TA}(F:rO X.prog X.w X.K X.mg X.base k f fd ps sp)(hr:yA k X.A)(hg:Gl X x)(hm:X.mg x=some (.ref f))(hk:PySem.W.keepIn X.K (.ref f)=true)(hb:Binds X.K fd ps [])
  (ha:PA X (e::es) t) (hdb:(x==("__debug__":Str))=false:=by decide) (he:starEach (e::es) X.env=(false,eval e X.env)::starEach es X.env:=by rfl) (hpl:(backTo pos (starEach es X.env)).any (·.1)=false:=by rfl):
  PE X (.Call (.Name x p) (e::es) [] pos) (IU sp X.pn t):=by
 intro pins s σ H Q I h
 refine wpAny_Call_Name_kw (hU I hg hm ?_ hdb)
 refine PySem.W.callWith_K (h₀:=X.base) I.ok.mod.iL hk (aJ (ha pos pins s σ H _ I h) fun us s1⟨vs,H1,I1,r,q⟩=>⟨I1.bh,?_⟩) he hpl
 have hl:us.length=ps.length:=by rw[<-r.length];exact F.len _ _ _ _ _ q
 have pk:xw X.pn X.stack s1 H1:=fun pp hp=>by
  obtain⟨h1,h2,h3,h4,h5⟩:=I1.pin pp (List.mem_append_left _ hp)
  refine⟨h1,h2,fun z=>?_,h5⟩
  rcases I1.ok.iE with e|⟨e,fe⟩
  ·rw[e]at z;exact h4 z
  ·rw[e]at z
   unfold ck at z
   rw[List.filterMap_cons,fe]at z
   rcases List.mem_cons.mp z with z|z
   ·exact h3 z
   ·exact h4 z
 have hb2:=hb s1 us I1.bh (by rw[List.append_nil];exact hl)
 rw[List.append_nil]at hb2
 refine wpAny_call (codeAny_mono (F.run X.A X.stack s1 H1 ⟨us,[]⟩ us vs Q X.pn hr I1.rX pk hb2 r q) fun rr s' hq=>?_)
 cases rr with
 |error e=>exact False.elim hq
 |ok fl=>
  cases fl with
  |ret u=>exact I1.after hq
  |next=>exact False.elim hq
  |brk=>exact False.elim hq
  |cont=>exact False.elim hq
end L2
end
section
set_option Elab.async false
set_option linter.all false
set_option maxRecDepth 100000
set_option maxHeartbeats 2000000
namespace Wale
open PySem PySem.Spec PyProof.Rows L2
open Wm
open LsWale (Fault)
variable {P:Program}{w:World}{K:PySem.W.Frag}{mg:Str->Option Value}{base:Heap}{a:Ad}
theorem Mx{A:Around}{v:Option Value}(hr:bp 99 A):yA 1 (A.mark v):=⟨by have:=hr.dp;show A.depth+3*1+5<recursionLimit;omega,by have:=hr.un;show A.units+16*1+200<cLine;omega⟩
def G6(K:PySem.W.Frag):List (Addr×Obj)->Sp:=fun pn vs H Q _=>∃(ea:Addr)(oe:Obj)(C d:Addr)(k pl:Int)(us:Array Value),vs=[.ref ea]/\(ea,oe)∈pn/\oe.cls=.ref C/\oe.dict=some d/\oe.data=.fields us/\
 H d=some (cZ d [("kind",.int k),("place",.int pl)])/\o1 K C/\bw K C "kind"/\bw K C "place"/\∀(H':Hp)(p:Addr),H' p=some (.lst [.int (-k),.int pl])->Q (.ref p) H'
theorem HM:aI ["fault"] ["fault"] (aD wu):=⟨rfl,rfl,rfl,by decide +kernel,rfl,by decide +kernel,by decide +kernel⟩
theorem Gc(T:Tx P w K mg a):rO P w K mg base 1 a.oM a.oX ["fault"] (G6 K):=by
 refine aG.Ly (k:=0) T.refusal.fn HM (fun pn vs H Q E h=>?_) (fun cdv A outer s H vs Q pn h=>?_)
 ·obtain⟨_,_,_,_,_,_,_,rfl,_⟩:=h;rfl
 obtain⟨ea,oe,C,d,k,pl,us,rfl,hp,hc,hdd,hv,hd,xg,nk,np,q⟩:=h
 refine⟨_,ak (aK (bK (ae (JT Kl (zP (pv 0) rfl)) (ae (zP (pv 0) rfl) ag)))),?_⟩
 exact⟨_,rfl,ea,oe,C,d,_,_,us,rfl,hp,hc,hdd,hv,hd,xg,nk,rfl,_,rfl,_,rfl,ea,oe,C,d,_,_,us,rfl,hp,hc,hdd,hv,hd,xg,np,rfl,(by show 2<=sizeLine;decide),fun p _=>q _ p az⟩
end Wale
end
section
set_option Elab.async false
set_option linter.all false
set_option maxRecDepth 100000
set_option maxHeartbeats 2000000
namespace Wale
open PySem PySem.Spec PyProof.Rows L2
open Wm
open LsWale (Fault)
variable {P:Program}{w:World}{K:PySem.W.Frag}{mg:Str->Option Value}{base:Heap}{a:Ad}
def qI(b:Bytes):List Int:=match LsWale.readAll b with
 | .error f=>[-(f.kind:Int),(f.place:Int)]
 | .ok _=>[0]
def rG(K:PySem.W.Frag):Sp:=fun vs H Q _=>∃(t:Addr)(b:Bytes),vs=[.ref t]/\aO K H t (nums b)/\b.length<=20000/\∀(H':Hp)(p:Addr),H' p=some (.lst ((qI b).map V.int))->Q (.ref p) H'
theorem DB:aI ["t","fault"] ["t"] (aD uv):=⟨rfl,rfl,rfl,by decide +kernel,rfl,by decide +kernel,by decide +kernel⟩
theorem Gx(T:Tx P w K mg a):aB P w K mg base bx 100 a.j9 a.lb ["t"] (rG K):=by
 refine aG.ok (k:=99) T.judge.fn DB (fun vs H Q E h=>?_) (fun cdv A outer s H vs Q E hr h=>?_)
 ·obtain⟨_,_,rfl,_⟩:=h;rfl
 obtain⟨t,b,rfl,hS,hl,q⟩:=h
 refine⟨_,ai (Hq (i:=1) (n:="fault") DB.nd rfl rfl rfl T.d5.1 T.d5.2.2 rfl rfl rfl (fun E pn Ec hp=>ak (a0 (aS T.CP (Fs T) hr hp (ae (pv 0) ag))))
   (fun ea pn=>ak (aK (Li (Gc T) (Mx hr) rfl T.refusal.at_ T.refusal.fn.kp T.refusal.bd (ae (pv 1) ag)))))
  (ak (aK (bK (ae bN ag)))),?_⟩
 refine⟨_,rfl,t,b,rfl,hS,hl,fun k pl hk=>?_,fun x e hx H' v H0 _ _=>?_⟩
 ·intro C d H' hE hd
  obtain⟨xc,xg,sub,nk,np⟩:=hE
  refine⟨C,d,rfl,rfl,xc,sub,fun ea oe vs pn hp hc hdd hv=>?_⟩
  refine⟨_,rfl,ea,oe,C,d,_,_,vs,rfl,hp,hc,hdd,hv,hd,xg,nk,np,fun H2 p e2=>q H2 p ?_⟩
  unfold qI
  rw[hk]
  exact e2
 ·refine⟨(by show 1<=sizeLine;decide),fun p hp=>q _ p ?_⟩
  unfold qI
  rw[hx]
  exact az
end Wale
end
section
set_option Elab.async false
set_option linter.all false
set_option maxRecDepth 100000
set_option maxHeartbeats 4000000
namespace L2
open PySem PySem.Spec PyProof.Rows
theorem Kv{K:PySem.W.Frag}{C:Addr}{nm q:Str}{N:Addr}{bs bm:List Value}{sn sub ab col dd k0 k1 k2 k3 k5}(e:K.lookup C=some (excClassObj nm q C N bs bm true sn sub ab col dd k0 k1 k2 k3 k5 "Exception.__new__"))(h:gF bm=true):dX K C=true:=by
 unfold dX
 rw[e]
 unfold excClassObj
 simp[h]
section
variable {K:PySem.W.Frag}{x qual:Str}{st:Stmt}{f:Addr}{fd:FuncData}
theorem aG.b1{p0:Str}(F:aG K x qual st f fd)(e:∀(kV doc pm:Value)(an:Option Addr)(cdv ct:Value)(u0:Value),bindArgs (PySem.W.fnOf x qual (jE st) (gN st) (aD st) .none kV doc pm an cdv ct) ⟨[u0],[]⟩=pure (([p0]:List Str).zip [u0]):=by intros;rfl):Binds K fd [p0] []:=
 F.binds fun a b c d g h us hl=>match us,hl with|[u0],_=>e a b c d g h u0
theorem aG.b2{p0 p1:Str}(F:aG K x qual st f fd)(e:∀(kV doc pm:Value)(an:Option Addr)(cdv ct:Value)(u0 u1:Value),bindArgs (PySem.W.fnOf x qual (jE st) (gN st) (aD st) .none kV doc pm an cdv ct) ⟨[u0,u1],[]⟩=pure (([p0,p1]:List Str).zip [u0,u1]):=by intros;rfl):Binds K fd [p0,p1] []:=
 F.binds fun a b c d g h us hl=>match us,hl with|[u0,u1],_=>e a b c d g h u0 u1
theorem aG.b3{p0 p1 p2:Str}(F:aG K x qual st f fd)(e:∀(kV doc pm:Value)(an:Option Addr)(cdv ct:Value)(u0 u1 u2:Value),bindArgs (PySem.W.fnOf x qual (jE st) (gN st) (aD st) .none kV doc pm an cdv ct) ⟨[u0,u1,u2],[]⟩=pure (([p0,p1,p2]:List Str).zip [u0,u1,u2]):=by intros;rfl):Binds K fd [p0,p1,p2] []:=
 F.binds fun a b c d g h us hl=>match us,hl with|[u0,u1,u2],_=>e a b c d g h u0 u1 u2
theorem aG.b4{p0 p1 p2 p3:Str}(F:aG K x qual st f fd)(e:∀(kV doc pm:Value)(an:Option Addr)(cdv ct:Value)(u0 u1 u2 u3:Value),bindArgs (PySem.W.fnOf x qual (jE st) (gN st) (aD st) .none kV doc pm an cdv ct) ⟨[u0,u1,u2,u3],[]⟩=pure (([p0,p1,p2,p3]:List Str).zip [u0,u1,u2,u3]):=by intros;rfl):Binds K fd [p0,p1,p2,p3] []:=
 F.binds fun a b c d g h us hl=>match us,hl with|[u0,u1,u2,u3],_=>e a b c d g h u0 u1 u2 u3
theorem aG.b6{p0 p1 p2 p3 p4 p5:Str}(F:aG K x qual st f fd)(e:∀(kV doc pm:Value)(an:Option Addr)(cdv ct:Value)(u0 u1 u2 u3 u4 u5:Value),bindArgs (PySem.W.fnOf x qual (jE st) (gN st) (aD st) .none kV doc pm an cdv ct) ⟨[u0,u1,u2,u3,u4,u5],[]⟩=pure (([p0,p1,p2,p3,p4,p5]:List Str).zip [u0,u1,u2,u3,u4,u5]):=by intros;rfl):Binds K fd [p0,p1,p2,p3,p4,p5] []:=
 F.binds fun a b c d g h us hl=>match us,hl with|[u0,u1,u2,u3,u4,u5],_=>e a b c d g h u0 u1 u2 u3 u4 u5
end
end L2
namespace Wale
open PySem PySem.Spec PyProof.Rows L2
open PySem.W (nsIn findIn keepIn isFn)
section
variable (K:PySem.W.Frag)(x:Str)(c F f:Addr)
abbrev TD(st:Stmt)(f:Addr)(fd:FuncData):Prop:=nsIn K mainGlobals x=some (some (.ref f))/\aG K x x st f fd
abbrev MD(x qual:Str)(st:Stmt)(f:Addr)(fd:FuncData):Prop:=findIn K (.ref c) x=some (some (.ref f))/\isFn K (.ref f)=true/\aG K x qual st f fd
abbrev XK:Prop:=∃nm q N bs bm sn sub ab col dd k0 k1 k2 k3 k5,K.lookup c=some (excClassObj nm q c N bs bm true sn sub ab col dd k0 k1 k2 k3 k5 "Exception.__new__")/\gF bm=true
abbrev RK:Prop:=nsIn K mainGlobals x=some (some (.ref c))/\PySem.W.readsIn K c (.type "type")=true/\PySem.W.specialIn K (.ref c) "__getattribute__"=some (some (.builtin "type.__getattribute__"))/\PySem.W.findCls K (.ref c) (.type "type") "__init__"=some (.val (.ref f))/\XK K c
abbrev EK:Prop:=nsIn K mainGlobals x=some (some (.ref c))/\XK K c/\findIn K (.ref c) "__init__"=some (some (.ref f))/\isFn K (.ref f)=true/\keepIn K (.ref c)=true/\findIn K (.ref c) "__setattr__"=some (some (.builtin "object.__setattr__"))/\findIn K (.ref c) "__getattribute__"=some (some (.builtin "BaseException.__getattribute__"))/\findIn K (.ref c) "__getattr__"=some none/\PySem.W.mroIn K c (.ref F)=some true/\findIn K (.ref c) "kind"=some none/\findIn K (.ref c) "place"=some none
abbrev OK:Prop:=nsIn K mainGlobals x=some (some (.ref c))/\PySem.W.plainGet K c Str.empty=true/\PySem.W.hasDictIn K c=true/\PySem.W.plainOver K c=true/\findIn K (.ref c) "__setattr__"=some (some (.builtin "object.__setattr__"))/\PySem.W.makesIn K c=true/\findIn K (.ref c) "__init__"=some (some (.ref f))/\isFn K (.ref f)=true/\keepIn K (.ref c)=true
abbrev NI(n:Int):Prop:=∃t,nsIn K mainGlobals x=some (some (.int n t))
abbrev NS(s:Str):Prop:=∃t,nsIn K mainGlobals x=some (some (.str s t))
abbrev NT(l:List Str)(t:Addr):Prop:=nsIn K mainGlobals x=some (some (.ref t))/\∃oc vs n sl,K.lookup t=some ⟨.type "tuple",oc,.seq (List.toArray vs) n,sl⟩/\aF (l.map V.str) vs
end
section
variable {K:PySem.W.Frag}{h:Heap}{mg:Str->Option Value}{x:Str}{c F f t:Addr}{fd:FuncData}{st:Stmt}{ps:List Str}(X:K.In h)(G:h.Ns mainGlobals mg)
include X G
theorem td(e:TD K x st f fd)(b:Binds K fd ps []):bu K mg x st ps f fd:=⟨e.2,b,PySem.W.mg_of X G e.1⟩
theorem xk(e:XK K c):dX K c=true:=by
 obtain⟨_,_,_,_,_,_,_,_,_,_,_,_,_,_,_,l,t⟩:=e
 exact Kv l t
theorem rk(e:RK K x c f)(kp:keepIn K (.ref f)=true):mg x=some (.ref c)/\vC K c "__init__" f/\dX K c=true:=⟨PySem.W.mg_of X G e.1,⟨e.2.1,e.2.2.1,e.2.2.2.1,kp⟩,xk X G e.2.2.2.2⟩
theorem ek(e:EK K x c F f):gU K mg x c F f:=by
 obtain⟨a,k,b,d,g,i,j,l,m,n,o⟩:=e
 exact⟨PySem.W.mg_of X G a,⟨xk X G k,b,d,g,i⟩,⟨xk X G k,j,l⟩,m,n,o⟩
theorem ow(e:OK K x c f):OwnCls K mg x c f:=by
 obtain⟨a,k,b,d,g,i,j,l,m⟩:=e
 exact⟨PySem.W.mg_of X G a,⟨k,b,d,g⟩,⟨i,j,l,m⟩⟩
theorem ni{n:Int}(e:NI K x n):dw mg x n:=e.elim fun t z=>⟨t,PySem.W.mg_of X G z⟩
theorem nS{n:Str}(e:NS K x n):eG mg x n:=e.elim fun t z=>⟨t,PySem.W.mg_of X G z⟩
theorem nt{l:List Str}(e:NT K x l t)(hl:l.length<=100):hW K mg x l t:=by
 obtain⟨a,oc,vs,n,sl,k,v⟩:=e
 refine⟨PySem.W.mg_of X G a,fun H=>.inr ⟨_,_,_,k,rfl,rfl,?_,v⟩⟩
 have:=v.length
 rw[List.length_map]at this
 rw[List.size_toArray,<-this]
 exact Nat.le_trans hl (by decide)
end
theorem all_mk{P:Program}{w:World}{K:PySem.W.Frag}{h:Heap}{mg:Str->Option Value}{j9:Addr}{pA o4 oC pz o9 qA pS pQ oJ oB pU nO o6 oV kD nv mW pP qk pq px pK qb o2 pd qg ng kK kX om ou pR jO mx oo mZ pO qo qH nY oM j6 jA kr jX kx kQ kc jD ku kh j7 jG kj lD pE p8 mN qj oW j4 kz lQ mX mU lP mQ lx mP mG mz lG:Addr}{nM qa nT o5 qu qw oa oY pZ ql oQ qE nU oR jS ll me oU nI qt nR pb pT oz qy nN lH jV nh qx nL qh jJ mm pj lY oy pF pD lb nP oX mF lW nq lO lE mB lM m4 lR lA lU lz lu mf pB oG k8 oh nZ mr k7 nF mR nz mE nG nj kW kZ nH mh:FuncData}{dG gK iP c8 cR pI jL p9 m3 nB nu oK bY bG a9:Addr}{jz kY lB lK jo tG qO qZ:Addr}{u0k0 u0k1 u0k2 u0k3 u0k4 u0k5 u0k6 u0v0 u0v1 u0v2 u0v3 u0v4 u0v5 u0v6 u1k0 u1k1 u1k2 u1k3 u1k4 u1k5 u1k6 u1k7 u1k8 u1k9 u1k10 u1k11 u1k12 u1v0 u1v1 u1v2 u1v3 u1v4 u1v5 u1v6 u1v7 u1v8 u1v9 u1v10 u1v11 u1v12:Tok}{u0x0 u0x1 u0x2 u0x3 u0x4 u0x5 u0x6 u1x0 u1x1 u1x2 u1x3 u1x4 u1x5 u1x6 u1x7 u1x8 u1x9 u1x10 u1x11 u1x12:Int}{u0e u1e:Nat}(X:K.In h)(G:h.Ns mainGlobals mg)(hfa:mg "judge"=some (.ref j9))
  (h0:RK K "Fault" cR kx)
  (h1:EK K "ByteFault" pI cR kQ)
  (h2:EK K "NumberFault" jL cR kc)
  (h3:EK K "WantFault" p9 cR jD)
  (h4:EK K "UntoldFault" m3 cR ku)
  (h5:EK K "AgainFault" nB cR kh)
  (h6:EK K "BoundFault" nu cR j7)
  (h7:EK K "SumsFault" oK cR jG)
  (h8:OK K "Stat" dG j6)
  (h9:findIn K (.ref dG) "phrase"=some none)
  (h10:findIn K (.ref dG) "body"=some none)
  (h11:OK K "Listed" gK jA)
  (h12:findIn K (.ref gK) "phrases"=some none)
  (h13:OK K "Bracketed" iP kr)
  (h14:findIn K (.ref iP) "listed"=some none)
  (h15:OK K "Chain" c8 jX)
  (h16:findIn K (.ref c8) "level"=some none)
  (h17:findIn K (.ref c8) "first"=some none)
  (h18:findIn K (.ref c8) "pairs"=some none)
  (h19:OK K "Names" bY kj)
  (h20:findIn K (.ref bY) "told"=some none)
  (h21:findIn K (.ref bY) "standing"=some none)
  (h22:findIn K (.ref bY) "amounts"=some none)
  (h23:OK K "Token" bG j4)
  (h24:findIn K (.ref bG) "kind"=some none)
  (h25:findIn K (.ref bG) "text"=some none)
  (h26:findIn K (.ref bG) "number"=some none)
  (h27:findIn K (.ref bG) "place"=some none)
  (h28:findIn K (.ref bG) "after"=some none)
  (h29:OK K "Reader" a9 kz)
  (h30:findIn K (.ref a9) "source"=some none)
  (h31:findIn K (.ref a9) "ahead"=some none)
  (h32:findIn K (.ref a9) "after"=some none)
  (h33:findIn K (.ref a9) "depth"=some none)
  (h34:findIn K (.ref a9) "names"=some none)
  (h35:TD K "chained" vw pA nM)
  (h36:TD K "has_level" x4 o4 qa)
  (h37:TD K "token_at" yh oC nT)
  (h38:TD K "skip_blanks" ym pz o5)
  (h39:TD K "skip_comment" xf o9 qu)
  (h40:TD K "word_token" yl qA qw)
  (h41:TD K "digit_word_at" wy pS oa)
  (h42:TD K "number_token" we pQ oY)
  (h43:TD K "spelled" sr oJ pZ)
  (h44:TD K "sign_of" vH oB ql)
  (h45:TD K "is_letter" wa pU oQ)
  (h46:TD K "is_digit" vk nO qE)
  (h47:TD K "is_letter_digit_or_underscore" yI o6 nU)
  (h48:TD K "begins_sum" uE oV oR)
  (h49:TD K "read_sum" yg kD jS)
  (h50:TD K "read_product" uB nv ll)
  (h51:TD K "read_factor" w7 mW me)
  (h52:TD K "read_pattern" wO pP oU)
  (h53:TD K "read_head" xh qk nI)
  (h54:TD K "read_sizes" xV pq qt)
  (h55:TD K "read_yarns" w6 px nR)
  (h56:TD K "read_new_names" wH pK pb)
  (h57:TD K "read_new_name" yq qb pT)
  (h58:TD K "read_let" yJ o2 oz)
  (h59:TD K "read_word" wm pd qy)
  (h60:TD K "read_block" vO qg nN)
  (h61:TD K "read_braces" vX ng lH)
  (h62:TD K "read_stats" wI kK jV)
  (h63:TD K "read_stat" xG kX nh)
  (h64:TD K "read_on" wK om qx)
  (h65:TD K "read_row" ui ou nL)
  (h66:TD K "read_work" wq pR qh)
  (h67:TD K "read_row_items" xS jO jJ)
  (h68:TD K "read_row_item" xX mx mm)
  (h69:TD K "read_goal" vj oo pj)
  (h70:TD K "read_unit" yu mZ lY)
  (h71:TD K "read_crossing" uO pO oy)
  (h72:TD K "read_crossing_number" wc qo pF)
  (h73:TD K "read_lone" yG qH pD)
  (h74:TD K "judge" uv j9 lb)
  (h75:TD K "read_text" wA nY nP)
  (h76:TD K "refusal" wu oM oX)
  (h77:aG K "__init__" "Stat.__init__" xB j6 mF)
  (h78:aG K "__init__" "Listed.__init__" uM jA lW)
  (h79:aG K "__init__" "Bracketed.__init__" xx kr nq)
  (h80:aG K "__init__" "Chain.__init__" xi jX lO)
  (h81:aG K "__init__" "Fault.__init__" wC kx lE)
  (h82:aG K "__init__" "ByteFault.__init__" wW kQ mB)
  (h83:aG K "__init__" "NumberFault.__init__" uf kc lM)
  (h84:aG K "__init__" "WantFault.__init__" wJ jD m4)
  (h85:aG K "__init__" "UntoldFault.__init__" vf ku lR)
  (h86:aG K "__init__" "AgainFault.__init__" uG kh lA)
  (h87:aG K "__init__" "BoundFault.__init__" vD j7 lU)
  (h88:aG K "__init__" "SumsFault.__init__" vv jG lz)
  (h89:aG K "__init__" "Names.__init__" yr kj lu)
  (h90:MD K bY "amount" "Names.amount" uo lD mf)
  (h91:MD K bY "check_new" "Names.check_new" xR pE pB)
  (h92:MD K bY "check_room" "Names.check_room" yF p8 oG)
  (h93:MD K bY "tell" "Names.tell" uQ mN k8)
  (h94:MD K bY "check_told" "Names.check_told" v5 qj oh)
  (h95:MD K bY "stand" "Names.stand" uq oW nZ)
  (h96:aG K "__init__" "Token.__init__" vi j4 mr)
  (h97:aG K "__init__" "Reader.__init__" vx kz k7)
  (h98:MD K a9 "peek" "Reader.peek" vB lQ nF)
  (h99:MD K a9 "step" "Reader.step" yj mX mR)
  (h100:MD K a9 "skip" "Reader.skip" xD mU nz)
  (h101:MD K a9 "want" "Reader.want" wb lP mE)
  (h102:MD K a9 "want_kind" "Reader.want_kind" wF mQ nG)
  (h103:MD K a9 "enter" "Reader.enter" uF lx nj)
  (h104:MD K a9 "leave" "Reader.leave" wg mP kW)
  (h105:MD K a9 "want_new_name" "Reader.want_new_name" yp mG kZ)
  (h106:MD K a9 "want_told_name" "Reader.want_told_name" ve mz nH)
  (h107:MD K a9 "want_standing_name" "Reader.want_standing_name" wM lG mh)
  (h108:NI K "SUM_LEVEL" 1)
  (h109:NI K "PRODUCT_LEVEL" 2)
  (h110:NS K "SIZES" "sizes")
  (h111:NS K "YARNS" "yarns")
  (h112:NS K "NUMBERS" "numbers")
  (h113:NS K "WORDS" "words")
  (h114:NS K "BLOCKS" "blocks")
  (h115:NS K "MARKERS" "markers")
  (h116:NS K "HOLDERS" "holders")
  (h117:nsIn K mainGlobals "BOUNDS"=some (some (.ref jz)))
  (h118:K.lookup jz=some ⟨.type "dict",none,.dict #[⟨u0x0,.str "sizes" u0k0,.int 16 u0v0⟩,⟨u0x1,.str "yarns" u0k1,.int 16 u0v1⟩,⟨u0x2,.str "numbers" u0k2,.int 256 u0v2⟩,⟨u0x3,.str "words" u0k3,.int 64 u0v3⟩,⟨u0x4,.str "blocks" u0k4,.int 64 u0v4⟩,⟨u0x5,.str "markers" u0k5,.int 64 u0v5⟩,⟨u0x6,.str "holders" u0k6,.int 16 u0v6⟩] u0e,#[]⟩)
  (h119:u0x0=c6 w (.inr "sizes")/\u0x1=c6 w (.inr "yarns")/\u0x2=c6 w (.inr "numbers")/\u0x3=c6 w (.inr "words")/\u0x4=c6 w (.inr "blocks")/\u0x5=c6 w (.inr "markers")/\u0x6=c6 w (.inr "holders"))
  (h120:(jz==sysModules)=false)
  (h121:NS K "END" "end")
  (h122:NS K "NAME" "name")
  (h123:NS K "NUMBER" "number")
  (h124:NS K "FIXED" "fixed")
  (h125:NT K "DIGIT_WORDS" ["k2tog","k3tog","p2tog","m1l","m1r"] kY)
  (h126:NI K "LONGEST_DIGIT_WORD" 5)
  (h127:NT K "PLAIN" ["k","p","ktbl","ptbl","yo","k2tog","k3tog","ssk","sssk","p2tog","ssp","cdd","kfb","pfb","kp","m1l","m1r","sl","slf","pso","even","co","bo"] lB)
  (h128:NT K "OTHER_WORDS" ["pattern","sizes","yarns","let","word","block","on","round","row","rs","ws","repeat","until","work","off","to","end","last","mark","cl","cr","hold","take","yarn","pass","clear","turn","fasten"] lK)
  (h129:nsIn K mainGlobals "SIGNS"=some (some (.ref jo)))
  (h130:K.lookup jo=some ⟨.type "dict",none,.dict #[⟨u1x0,.int 40 u1k0,.str "(" u1v0⟩,⟨u1x1,.int 41 u1k1,.str ")" u1v1⟩,⟨u1x2,.int 42 u1k2,.str "*" u1v2⟩,⟨u1x3,.int 43 u1k3,.str "+" u1v3⟩,⟨u1x4,.int 44 u1k4,.str "," u1v4⟩,⟨u1x5,.int 45 u1k5,.str "-" u1v5⟩,⟨u1x6,.int 47 u1k6,.str "/" u1v6⟩,⟨u1x7,.int 59 u1k7,.str ";" u1v7⟩,⟨u1x8,.int 61 u1k8,.str "=" u1v8⟩,⟨u1x9,.int 91 u1k9,.str "[" u1v9⟩,⟨u1x10,.int 93 u1k10,.str "]" u1v10⟩,⟨u1x11,.int 123 u1k11,.str "{" u1v11⟩,⟨u1x12,.int 125 u1k12,.str "}" u1v12⟩] u1e,#[]⟩)
  (h131:u1x0=c6 w (.inl 40)/\u1x1=c6 w (.inl 41)/\u1x2=c6 w (.inl 42)/\u1x3=c6 w (.inl 43)/\u1x4=c6 w (.inl 44)/\u1x5=c6 w (.inl 45)/\u1x6=c6 w (.inl 47)/\u1x7=c6 w (.inl 59)/\u1x8=c6 w (.inl 61)/\u1x9=c6 w (.inl 91)/\u1x10=c6 w (.inl 93)/\u1x11=c6 w (.inl 123)/\u1x12=c6 w (.inl 125))
  (h132:(jo==sysModules)=false)
  (h133:NS K "LETTERS" "abcdefghijklmnopqrstuvwxyz")
  (h134:NS K "DIGITS" "0123456789")
  (h135:NI K "LINE_END" 10)
  (h136:NI K "BLANK" 32)
  (h137:NI K "HASH" 35)
  (h138:NI K "ZERO" 48)
  (h139:NI K "NINE" 57)
  (h140:NI K "UNDERSCORE" 95)
  (h141:NI K "LOWER_A" 97)
  (h142:NI K "LOWER_Z" 122)
  (h143:NI K "FIRST_BYTE" 32)
  (h144:NI K "LAST_BYTE" 126)
  (h145:NI K "LARGEST_NUMBER" 1048576)
  (h146:NT K "HEADS" ["sizes","yarns","let","word","block"] tG)
  (h147:NT K "STATS" ["on","row","repeat","until","work","off"] qO)
  (h148:NT K "LONES" ["take","yarn","mark","pass","clear","turn","fasten"] qZ)
  (h149:NI K "LARGEST_CROSSING" 16)
  (h150:NI K "DEEPEST" 8)
  (h151:NI K "LONGEST_TEXT" 16384)
  (h152:PySem.W.specialIn K (.builtin "object.__class__") "__get__"=some (some (.builtin "getset_descriptor.__get__")))
  (h153:PySem.W.takesIn K (.builtin "object.__class__")=some true)
  (h154:rh K c8)
  (h155:PySem.W.kitOne K (.type "str") (.ref c8)=some false)
  (h156:PySem.W.kitOne K (.ref c8) (.ref c8)=some true)
  (h157:PySem.W.nsIn K mainGlobals "len"=some none)
  (h158:PySem.W.nsIn K mainGlobals "min"=some none)
  (h159:PySem.W.nsIn K mainGlobals "isinstance"=some none)
  (h160:PySem.W.nsIn K mainGlobals "str"=some none)
  :∃fd:FuncData,(∀(s:Shared)(us:List Value),us.length=(["t"]:List Str).length->BindsTo s fd ⟨us,[]⟩ ((["t"]:List Str).zip us))/\∀base:Heap,K.In base->base.Ns mainGlobals mg->aB P w K mg base bx 100 j9 fd ["t"] (rG K):=by
 have M_BOUNDS:kC P w K jz [(.inr "sizes",.int 16),(.inr "yarns",.int 16),(.inr "numbers",.int 256),(.inr "words",.int 64),(.inr "blocks",.int 64),(.inr "markers",.int 64),(.inr "holders",.int 16)]:=by
  refine⟨fun hh XX=>⟨[(.inr "sizes",.int 16 u0v0),(.inr "yarns",.int 16 u0v1),(.inr "numbers",.int 256 u0v2),(.inr "words",.int 64 u0v3),(.inr "blocks",.int 64 u0v4),(.inr "markers",.int 64 u0v5),(.inr "holders",.int 16 u0v6)],(.cons ⟨rfl,⟨_,rfl⟩⟩ (.cons ⟨rfl,⟨_,rfl⟩⟩ (.cons ⟨rfl,⟨_,rfl⟩⟩ (.cons ⟨rfl,⟨_,rfl⟩⟩ (.cons ⟨rfl,⟨_,rfl⟩⟩ (.cons ⟨rfl,⟨_,rfl⟩⟩ (.cons ⟨rfl,⟨_,rfl⟩⟩ .nil))))))),_,_,_,XX _ _ h118,⟨rfl,rfl,rfl⟩,rfl,?_,(.cons rfl rfl (.cons rfl rfl (.cons rfl rfl (.cons rfl rfl (.cons rfl rfl (.cons rfl rfl (.cons rfl rfl .nil))))))),(show([.inr "sizes",.inr "yarns",.inr "numbers",.inr "words",.inr "blocks",.inr "markers",.inr "holders"]:List Key).Nodup by decide +kernel)⟩,h120⟩
  intro e he
  simp only[List.mem_toArray,List.mem_cons,List.not_mem_nil,or_false]at he
  obtain⟨z0,z1,z2,z3,z4,z5,z6⟩:=h119
  rcases he with rfl|rfl|rfl|rfl|rfl|rfl|rfl
  ·exact⟨.inr "sizes",rfl,z0⟩
  ·exact⟨.inr "yarns",rfl,z1⟩
  ·exact⟨.inr "numbers",rfl,z2⟩
  ·exact⟨.inr "words",rfl,z3⟩
  ·exact⟨.inr "blocks",rfl,z4⟩
  ·exact⟨.inr "markers",rfl,z5⟩
  ·exact⟨.inr "holders",rfl,z6⟩
 have M_SIGNS:kC P w K jo [(.inl 40,.str "("),(.inl 41,.str ")"),(.inl 42,.str "*"),(.inl 43,.str "+"),(.inl 44,.str ","),(.inl 45,.str "-"),(.inl 47,.str "/"),(.inl 59,.str ";"),(.inl 61,.str "="),(.inl 91,.str "["),(.inl 93,.str "]"),(.inl 123,.str "{"),(.inl 125,.str "}")]:=by
  refine⟨fun hh XX=>⟨[(.inl 40,.str "(" u1v0),(.inl 41,.str ")" u1v1),(.inl 42,.str "*" u1v2),(.inl 43,.str "+" u1v3),(.inl 44,.str "," u1v4),(.inl 45,.str "-" u1v5),(.inl 47,.str "/" u1v6),(.inl 59,.str ";" u1v7),(.inl 61,.str "=" u1v8),(.inl 91,.str "[" u1v9),(.inl 93,.str "]" u1v10),(.inl 123,.str "{" u1v11),(.inl 125,.str "}" u1v12)],(.cons ⟨rfl,⟨_,rfl⟩⟩ (.cons ⟨rfl,⟨_,rfl⟩⟩ (.cons ⟨rfl,⟨_,rfl⟩⟩ (.cons ⟨rfl,⟨_,rfl⟩⟩ (.cons ⟨rfl,⟨_,rfl⟩⟩ (.cons ⟨rfl,⟨_,rfl⟩⟩ (.cons ⟨rfl,⟨_,rfl⟩⟩ (.cons ⟨rfl,⟨_,rfl⟩⟩ (.cons ⟨rfl,⟨_,rfl⟩⟩ (.cons ⟨rfl,⟨_,rfl⟩⟩ (.cons ⟨rfl,⟨_,rfl⟩⟩ (.cons ⟨rfl,⟨_,rfl⟩⟩ (.cons ⟨rfl,⟨_,rfl⟩⟩ .nil))))))))))))),_,_,_,XX _ _ h130,⟨rfl,rfl,rfl⟩,rfl,?_,(.cons rfl rfl (.cons rfl rfl (.cons rfl rfl (.cons rfl rfl (.cons rfl rfl (.cons rfl rfl (.cons rfl rfl (.cons rfl rfl (.cons rfl rfl (.cons rfl rfl (.cons rfl rfl (.cons rfl rfl (.cons rfl rfl .nil))))))))))))),(show([.inl 40,.inl 41,.inl 42,.inl 43,.inl 44,.inl 45,.inl 47,.inl 59,.inl 61,.inl 91,.inl 93,.inl 123,.inl 125]:List Key).Nodup by decide +kernel)⟩,h132⟩
  intro e he
  simp only[List.mem_toArray,List.mem_cons,List.not_mem_nil,or_false]at he
  obtain⟨z0,z1,z2,z3,z4,z5,z6,z7,z8,z9,z10,z11,z12⟩:=h131
  rcases he with rfl|rfl|rfl|rfl|rfl|rfl|rfl|rfl|rfl|rfl|rfl|rfl|rfl
  ·exact⟨.inl 40,rfl,z0⟩
  ·exact⟨.inl 41,rfl,z1⟩
  ·exact⟨.inl 42,rfl,z2⟩
  ·exact⟨.inl 43,rfl,z3⟩
  ·exact⟨.inl 44,rfl,z4⟩
  ·exact⟨.inl 45,rfl,z5⟩
  ·exact⟨.inl 47,rfl,z6⟩
  ·exact⟨.inl 59,rfl,z7⟩
  ·exact⟨.inl 61,rfl,z8⟩
  ·exact⟨.inl 91,rfl,z9⟩
  ·exact⟨.inl 93,rfl,z10⟩
  ·exact⟨.inl 123,rfl,z11⟩
  ·exact⟨.inl 125,rfl,z12⟩
 have T:Tx P w K mg ⟨pA,nM,o4,qa,oC,nT,pz,o5,o9,qu,qA,qw,pS,oa,pQ,oY,oJ,pZ,oB,ql,pU,oQ,nO,qE,o6,nU,oV,oR,kD,jS,nv,ll,mW,me,pP,oU,qk,nI,pq,qt,px,nR,pK,pb,qb,pT,o2,oz,pd,qy,qg,nN,ng,lH,kK,jV,kX,nh,om,qx,ou,nL,pR,qh,jO,jJ,mx,mm,oo,pj,mZ,lY,pO,oy,qo,pF,qH,pD,j9,lb,nY,nP,oM,oX,j6,mF,jA,lW,kr,nq,jX,lO,kx,lE,kQ,mB,kc,lM,jD,m4,ku,lR,kh,lA,j7,lU,jG,lz,kj,lu,lD,mf,pE,pB,p8,oG,mN,k8,qj,oh,oW,nZ,j4,mr,kz,k7,lQ,nF,mX,mR,mU,nz,lP,mE,mQ,nG,lx,nj,mP,kW,mG,kZ,mz,nH,lG,mh,dG,gK,iP,c8,cR,pI,jL,p9,m3,nB,nu,oK,bY,bG,a9,jz,kY,lB,lK,jo,tG,qO,qZ⟩:=⟨td X G h35 h35.2.b4,
  td X G h36 h36.2.b2,
  td X G h37 h37.2.b2,
  td X G h38 h38.2.b2,
  td X G h39 h39.2.b2,
  td X G h40 h40.2.b2,
  td X G h41 h41.2.b2,
  td X G h42 h42.2.b2,
  td X G h43 h43.2.b1,
  td X G h44 h44.2.b1,
  td X G h45 h45.2.b1,
  td X G h46 h46.2.b1,
  td X G h47 h47.2.b1,
  td X G h48 h48.2.b1,
  td X G h49 h49.2.b1,
  td X G h50 h50.2.b1,
  td X G h51 h51.2.b1,
  td X G h52 h52.2.b1,
  td X G h53 h53.2.b1,
  td X G h54 h54.2.b2,
  td X G h55 h55.2.b2,
  td X G h56 h56.2.b2,
  td X G h57 h57.2.b2,
  td X G h58 h58.2.b1,
  td X G h59 h59.2.b1,
  td X G h60 h60.2.b1,
  td X G h61 h61.2.b1,
  td X G h62 h62.2.b1,
  td X G h63 h63.2.b1,
  td X G h64 h64.2.b1,
  td X G h65 h65.2.b1,
  td X G h66 h66.2.b1,
  td X G h67 h67.2.b1,
  td X G h68 h68.2.b1,
  td X G h69 h69.2.b1,
  td X G h70 h70.2.b1,
  td X G h71 h71.2.b1,
  td X G h72 h72.2.b1,
  td X G h73 h73.2.b1,
  td X G h74 h74.2.b1,
  td X G h75 h75.2.b1,
  td X G h76 h76.2.b1,
  ⟨h77,h77.b3⟩,
  ⟨h78,h78.b2⟩,
  ⟨h79,h79.b2⟩,
  ⟨h80,h80.b3⟩,
  ⟨h81,h81.b3⟩,
  ⟨h82,h82.b2⟩,
  ⟨h83,h83.b2⟩,
  ⟨h84,h84.b2⟩,
  ⟨h85,h85.b2⟩,
  ⟨h86,h86.b2⟩,
  ⟨h87,h87.b2⟩,
  ⟨h88,h88.b2⟩,
  ⟨h89,h89.b1⟩,
  ⟨h90.2.2,h90.2.2.b2,⟨h90.1,h90.2.1,h90.2.2.kp⟩⟩,
  ⟨h91.2.2,h91.2.2.b3,⟨h91.1,h91.2.1,h91.2.2.kp⟩⟩,
  ⟨h92.2.2,h92.2.2.b3,⟨h92.1,h92.2.1,h92.2.2.kp⟩⟩,
  ⟨h93.2.2,h93.2.2.b3,⟨h93.1,h93.2.1,h93.2.2.kp⟩⟩,
  ⟨h94.2.2,h94.2.2.b3,⟨h94.1,h94.2.1,h94.2.2.kp⟩⟩,
  ⟨h95.2.2,h95.2.2.b3,⟨h95.1,h95.2.1,h95.2.2.kp⟩⟩,
  ⟨h96,h96.b6⟩,
  ⟨h97,h97.b2⟩,
  ⟨h98.2.2,h98.2.2.b1,⟨h98.1,h98.2.1,h98.2.2.kp⟩⟩,
  ⟨h99.2.2,h99.2.2.b1,⟨h99.1,h99.2.1,h99.2.2.kp⟩⟩,
  ⟨h100.2.2,h100.2.2.b2,⟨h100.1,h100.2.1,h100.2.2.kp⟩⟩,
  ⟨h101.2.2,h101.2.2.b2,⟨h101.1,h101.2.1,h101.2.2.kp⟩⟩,
  ⟨h102.2.2,h102.2.2.b2,⟨h102.1,h102.2.1,h102.2.2.kp⟩⟩,
  ⟨h103.2.2,h103.2.2.b2,⟨h103.1,h103.2.1,h103.2.2.kp⟩⟩,
  ⟨h104.2.2,h104.2.2.b2,⟨h104.1,h104.2.1,h104.2.2.kp⟩⟩,
  ⟨h105.2.2,h105.2.2.b2,⟨h105.1,h105.2.1,h105.2.2.kp⟩⟩,
  ⟨h106.2.2,h106.2.2.b2,⟨h106.1,h106.2.1,h106.2.2.kp⟩⟩,
  ⟨h107.2.2,h107.2.2.b2,⟨h107.1,h107.2.1,h107.2.2.kp⟩⟩,
  rk X G h0 h81.kp,
  ek X G h1,
  ek X G h2,
  ek X G h3,
  ek X G h4,
  ek X G h5,
  ek X G h6,
  ek X G h7,
  ow X G h8,
  h9,
  h10,
  ow X G h11,
  h12,
  ow X G h13,
  h14,
  ow X G h15,
  h16,
  h17,
  h18,
  ow X G h19,
  h20,
  h21,
  h22,
  ow X G h23,
  h24,
  h25,
  h26,
  h27,
  h28,
  ow X G h29,
  h30,
  h31,
  h32,
  h33,
  h34,
  ni X G h108,
  ni X G h109,
  nS X G h110,
  nS X G h111,
  nS X G h112,
  nS X G h113,
  nS X G h114,
  nS X G h115,
  nS X G h116,
  ⟨PySem.W.mg_of X G h117,M_BOUNDS⟩,
  nS X G h121,
  nS X G h122,
  nS X G h123,
  nS X G h124,
  nt X G h125 (by decide),
  ni X G h126,
  nt X G h127 (by decide),
  nt X G h128 (by decide),
  ⟨PySem.W.mg_of X G h129,M_SIGNS⟩,
  nS X G h133,
  nS X G h134,
  ni X G h135,
  ni X G h136,
  ni X G h137,
  ni X G h138,
  ni X G h139,
  ni X G h140,
  ni X G h141,
  ni X G h142,
  ni X G h143,
  ni X G h144,
  ni X G h145,
  nt X G h146 (by decide),
  nt X G h147 (by decide),
  nt X G h148 (by decide),
  ni X G h149,
  ni X G h150,
  ni X G h151,
  h152,
  h153,
  h154,
  h155,
  h156,
  PySem.W.mg_none_of X G h157,
  PySem.W.mg_none_of X G h158,
  PySem.W.mg_none_of X G h159,
  PySem.W.mg_none_of X G h160⟩
 obtain⟨oc,od,kV,doc,pm,an,cdv,ct,osl,e,l,c⟩:=h74.2.ex
 refine⟨_,fun s us hu=>match us,hu with|[u0],_=>?_,fun base _ _=>Gx T⟩
 show BindsTo s lb _ _
 rw[e]
 exact .of_eq rfl
end Wale
end
section
set_option Elab.async false
set_option linter.all false
set_option maxRecDepth 100000
set_option maxHeartbeats 2000000
namespace Wale
open PySem PySem.Spec PyProof.Rows L2
open LsWale (Fault)
def fK(t:List Int):Bytes:=t.map fun(n:Int)=>UInt8.ofNat n.toNat
theorem LY(t:List Int):(fK t).length=t.length:=by simp[fK]
theorem Bi:∀(t:List Int),NeutralIO.bytes t=true->nums (fK t)=t.map V.int
 |[],_=>rfl
 |n::r,h=>by
  unfold NeutralIO.bytes at h
  rw[List.all_cons,Bool.and_eq_true,Bool.and_eq_true,decide_eq_true_eq,decide_eq_true_eq]at h
  have hr:=Bi r (by unfold NeutralIO.bytes;exact h.2)
  have e:(((UInt8.ofNat n.toNat).toNat:Nat):Int)=n:=by
   rw[UInt8.toNat_ofNat']
   have:=h.1.1;have:=h.1.2
   omega
  unfold nums fK at hr ⊢
  rw[List.map_cons,List.map_cons,List.map_cons,hr,e]
theorem JM(t:List Int)(h:NeutralIO.bytes t=true):WaleNeutral.callOf [[1],t]=some (.judge (fK t)):=by
 show(WaleNeutral.text? t>>=fun x=>some (LsWaleCalls.Call.judge x))=_
 unfold WaleNeutral.text?
 rw[if_pos h]
 rfl
theorem Lp(t:List Int)(h:NeutralIO.bytes t=true):PyWqbabh.judge t=qI (fK t):=by
 unfold PyWqbabh.judge WaleNeutral.f
 rw[JM t h]
 have e:LsWaleCalls.answer (.judge (fK t))=match LsWale.readAll (fK t)with
   | .error e=>LsWaleCalls.told e
   | .ok _=>LsWaleCalls.says 0:=by
  show(match LsWale.read (fK t)with
   | .error e=>LsWaleCalls.told e
   | .ok _=>LsWaleCalls.says 0)=_
  unfold LsWale.read
  cases LsWale.readAll (fK t)<;>rfl
 dsimp only
 rw[e]
 unfold qI
 cases LsWale.readAll (fK t)<;>rfl
theorem JI(t:List Int)(h:PySem.W.Codec.inList 0 20000 (PySem.W.Codec.inInt 0 255) t=true):NeutralIO.bytes t=true/\t.length<=20000:=by
 unfold PySem.W.Codec.inList PySem.W.Codec.inLen PySem.W.Codec.inNat at h
 rw[Bool.and_eq_true,Bool.and_eq_true,decide_eq_true_eq]at h
 exact⟨h.2,of_decide_eq_true h.1.2⟩
theorem LF:∀(K:PySem.W.Frag)(H:Hp)(xs:List V)(a:PySem.W.Codec.denoteAll PySem.Challenge.rw_waletexts_s01_judge.args),mv H->PySem.W.Codec.withinAll PySem.Challenge.rw_waletexts_s01_judge.args a=true->PySem.W.Codec.app PySem.Challenge.rw_waletexts_s01_judge.args PySem.Challenge.rw_waletexts_s01_judge.asked a=true->eN K H xs (PySem.W.Codec.encAll PySem.Challenge.rw_waletexts_s01_judge.args a)->
   rG K xs H (fun v H'=>Dw K H' v (PySem.Challenge.rw_waletexts_s01_judge.ret.enc (PySem.W.Codec.app PySem.Challenge.rw_waletexts_s01_judge.args PySem.Challenge.rw_waletexts_s01_judge.f a))) fun _ _ _=>False:=by
 intro K H xs a _ hw _ hx
 obtain⟨t,u⟩:=a
 change List Int at t
 have hw1:PySem.W.Codec.inList 0 20000 (PySem.W.Codec.inInt 0 255) t=true:=by
  have:(PySem.W.Codec.inList 0 20000 (PySem.W.Codec.inInt 0 255) t&&_)=true:=hw
  exact(Bool.and_eq_true_iff.mp this).1
 have hb:=JI t hw1
 have hx':eN K H xs [.list (t.map PySem.W.WData.int)]:=hx
 cases hx' with
 |cons h1 h2=>
  cases h2
  cases h1 with
  |lst hs hd=>
   rename_i ad ys
   have ey:=Ao t ys hd
   refine⟨ad,fK t,rfl,?_,by rw[LY];exact hb.2,fun H' p hp=>?_⟩
   ·rw[Bi t hb.1,<-ey];exact hs
   ·show Dw K H' (.ref p) (.list ((PyWqbabh.judge t).map PySem.W.WData.int))
    rw[Lp t hb.1]
    exact .lst (aO.of hp) (Be _)
end Wale
end
section
set_option Elab.async false
set_option maxRecDepth 100000
open PySem PySem.W PyProof.Rows
def PySem.W.Fast.tw15614096599090981151:=0
def PySem.W.Fast.tw9531429558393394418:=0
def PySem.W.Fast.tw14869406106168706540:=0
def PySem.W.Fast.tw14971077662231953989:=0
def PySem.W.Fast.tw1289428902460015355:=0
def PySem.W.Fast.tw5103624190015834612:=0
def PySem.W.Fast.tw8130488629544454196:=0
def PySem.W.Fast.tw5533294665322660471:=0
def PySem.W.Fast.tw3070425028398910175:=0
def PySem.W.Fast.tw3695229728571026403:=0
def PySem.W.Fast.tw1347263922478818777:=0
def PySem.W.Fast.tw5286332946269839801:=0
def PySem.W.Fast.tw5716987530947086:=0
def PySem.W.Fast.tw13753053787945450514:=0
def PySem.W.Fast.tw12107559843994487137:=0
def PySem.W.Fast.tw7398115383506084276:=0
def PySem.W.Fast.tw8155086004359212102:=0
def PySem.W.Fast.tw8899680622160429080:=0
def PySem.W.Fast.tw2395373617382352522:=0
def PySem.W.Fast.tw3658130718063298369:=0
def PySem.W.Fast.tw18245965107932423167:=0
def PySem.W.Fast.tw15158019155942940284:=0
def PySem.W.Fast.tw1590069284518412037:=0
def PySem.W.Fast.tw74914269034600817:=0
def PySem.W.Fast.tw3050421940054951639:=0
def PySem.W.Fast.tw1076660346095924815:=0
def PySem.W.Fast.tw16901233687778369192:=0
def PySem.W.Fast.tw7275115757928316374:=0
def PySem.W.Fast.tw2882985789817773126:=0
def PySem.W.Fast.tw5567910989781258257:=0
def PySem.W.Fast.tw8786199356970884422:=0
def PySem.W.Fast.tw5520799965579593832:=0
def PySem.W.Fast.tw5379708397547128040:=0
def PySem.W.Fast.tw12781408926667737927:=0
def PySem.W.Fast.tw5389691714411127593:=0
def PySem.W.Fast.tw909729054483674024:=0
def PySem.W.Fast.tw10793387518030181876:=0
def PySem.W.Fast.tw13212780641908420883:=0
def PySem.W.Fast.tw6596183496119286908:=0
def PySem.W.Fast.tw16644517704385356308:=0
def PySem.W.Fast.tw16495992077618838264:=0
def PySem.W.Fast.tw2740151874612858865:=0
def PySem.W.Fast.tw9201148093969179415:=0
def PySem.W.Fast.tw11034641922677035934:=0
def PySem.W.Fast.tw6735328441694213032:=0
def PySem.W.Fast.tw14038405588482418234:=0
def PySem.W.Fast.tw4608163365182236489:=0
def PySem.W.Fast.tw3122164788842925955:=0
def PySem.W.Fast.tw15213780126272941088:=0
def PySem.W.Fast.tw7973497503331604505:=0
def PySem.W.Fast.tw9767924887236485578:=0
def PySem.W.Fast.tw15550050915405100743:=0
def PySem.W.Fast.tw13891226823180450281:=0
def PySem.W.Fast.tw1808510241461310134:=0
def PySem.W.Fast.tw2351445169605893902:=0
def PySem.W.Fast.tw1977323044463276829:=0
def PySem.W.Fast.tw9359537700268352839:=0
def PySem.W.Fast.tw7426156616375143719:=0
def PySem.W.Fast.tw7369300034942394451:=0
def PySem.W.Fast.tw6363773293847237424:=0
def PySem.W.Fast.tw17770901471492053132:=0
def PySem.W.Fast.tw5518654583991051497:=0
def PySem.W.Fast.tw4665625773534693800:=0
def PySem.W.Fast.tw1168263619542914355:=0
def PySem.W.Fast.tw9452799776752291022:=0
def PySem.W.Fast.tw15706252968693232230:=0
def PySem.W.Fast.tw3934915626035723124:=0
def PySem.W.Fast.tw2762435865777863155:=0
def PySem.W.Fast.tw7819293719656571148:=0
def PySem.W.Fast.tw15246032199798004384:=0
def PySem.W.Fast.tw8204240209139519793:=0
def PySem.W.Fast.tw11111108557949692026:=0
def PySem.W.Fast.tw212251077414628285:=0
def PySem.W.Fast.tw322135388740961858:=0
def PySem.W.Fast.tw3221497220280026366:=0
def PySem.W.Fast.tw15058294196853798915:=0
def PySem.W.Fast.tw15606413466317632912:=0
def PySem.W.Fast.tw6594861282681958215:=0
def PySem.W.Fast.tw13597069463405853769:=0
def PySem.W.Fast.tw14929094784741039344:=0
def PySem.W.Fast.tw7278855841497854193:=0
def PySem.W.Fast.tw12233559929425257471:=0
def PySem.W.Fast.tw7617952647044468516:=0
def PySem.W.Fast.tw4733700832911824921:=0
def PySem.W.Fast.tw5391463246355932506:=0
def PySem.W.Fast.tw5457027041312099613:=0
def PySem.W.Fast.tw91801278297074354:=0
def PySem.W.Fast.tw3811424426243209726:=0
def PySem.W.Fast.tw17534669809058833741:=0
def PySem.W.Fast.tw10528874767747304779:=0
def PySem.W.Fast.tw7917264602135997145:=0
def PySem.W.Fast.tw10416231114190251551:=0
def PySem.W.Fast.tw16893455681397308099:=0
def PySem.W.Fast.tw3147652185021221791:=0
def PySem.W.Fast.tw974979387437747435:=0
def PySem.W.Fast.tw3244672000003698307:=0
def PySem.W.Fast.tw4242042847680741267:=0
def PySem.W.Fast.tw17821708203649717124:=0
def PySem.W.Fast.tw292507672547882306:=0
def PySem.W.Fast.tw4193965252674345971:=0
def PySem.W.Fast.tw13994365180530968062:=0
def PySem.W.Fast.tw8538073290526413454:=0
def PySem.W.Fast.tw13925545246400076995:=0
def PySem.W.Fast.tw6985942899083398032:=0
def PySem.W.Fast.tw8231252227374257841:=0
def PySem.W.Fast.tw6174983589980536481:=0
def PySem.W.Fast.tw1058850475675909426:=0
def PySem.W.Fast.tw9328636623407815278:=0
def PySem.W.Fast.tw2912741744317296259:=0
def PySem.W.Fast.tw18426978673109026558:=0
def PySem.W.Fast.tw1529630654849209880:=0
def PySem.W.Fast.tw11393963587301963259:=0
def PySem.W.Fast.tw12255348369129798987:=0
def PySem.W.Fast.tw13816900136271147175:=0
def PySem.W.Fast.tw17909647356798598810:=0
def PySem.W.Fast.tw11892707236987857696:=0
def PySem.W.Fast.tw18438217860854383888:=0
def PySem.W.Fast.tw1081049336968415483:=0
def PySem.W.Fast.tw14165282054649823992:=0
def PySem.W.Fast.tw17816014282300558641:=0
def PySem.W.Fast.tw16693905381119172869:=0
def PySem.W.Fast.tw5776321256922180420:=0
def PySem.W.Fast.tw5561880024783496716:=0
def PySem.W.Fast.tw6587797759025381091:=0
def PySem.W.Fast.tw9617733735841581257:=0
def PySem.W.Fast.tw9503048904756106772:=0
def PySem.W.Fast.tw14303049705373544307:=0
def PySem.W.Fast.tw5354741980794480766:=0
def PySem.W.Fast.tw3822709346716016372:=0
def PySem.W.Fast.tw2353961387466574805:=0
def PySem.W.Fast.tw1796055876538090060:=0
def PySem.W.Fast.tw3043173018705162138:=0
def PySem.W.Fast.tw16872233155755157826:=0
def PySem.W.Fast.tw11777039617266812963:=0
def PySem.W.Fast.tw3864074470150410008:=0
def PySem.W.Fast.tw16526960254352164316:=0
def PySem.W.Fast.tw12840948497839309094:=0
def PySem.W.Fast.tw4429291219038185947:=0
def PySem.W.Fast.tw3842510963583625914:=0
def PySem.W.Fast.tw3685128777469036865:=0
def PySem.W.Fast.tw7266928854747329248:=0
def PySem.W.Fast.tw13208096782601293851:=0
def PySem.W.Fast.tw13194895146291858082:=0
def PySem.W.Fast.tw306209368825734191:=0
def PySem.W.Fast.tw5833089357146475739:=0
def PySem.W.Fast.tw4361216365500972680:=0
def PySem.W.Fast.tw15092341399419338159:=0
def PySem.W.Fast.tw92307237020972417:=0
def PySem.W.Fast.tw10685541421406765563:=0
def PySem.W.Fast.tw8025332308503225201:=0
def PySem.W.Fast.tw7284712232310666412:=0
def PySem.W.Fast.tw7700180587867555372:=0
def PySem.W.Fast.tw2254878133184281622:=0
def PySem.W.Fast.tw15549131855480668318:=0
def PySem.W.Fast.tw2287482510443081957:=0
def PySem.W.Fast.tw16481366122936794135:=0
def PySem.W.Fast.tw3140941833120845473:=0
def PySem.W.Fast.tw16798039272515106185:=0
def PySem.W.Fast.tw15006001362987348067:=0
def PySem.W.Fast.tw9102093510785224168:=0
def PySem.W.Fast.tw5985421666218301638:=0
def PySem.W.Fast.tw6596629684318823151:=0
def PySem.W.Fast.tw4234828105819898373:=0
def PySem.W.Fast.tw3519569914794647746:=0
def PySem.W.Fast.tw845292733569727525:=0
def PySem.W.Fast.tw8521927710275667023:=0
def PySem.W.Fast.tw17686615899074599306:=0
def PySem.W.Fast.tw10231339588236392425:=0
def PySem.W.Fast.tw7687599586573449802:=0
def PySem.W.Fast.tw652167283102781672:=0
def PySem.W.Fast.tw10446449415254899208:=0
def PySem.W.Fast.tw16221880379233685565:=0
def PySem.W.Fast.tw4840175168193099769:=0
def PySem.W.Fast.tw2532957446461746216:=0
def PySem.W.Fast.tw7180437386184169215:=0
def PySem.W.Fast.tw9261502140608806949:=0
def PySem.W.Fast.tw15700612930202451385:=0
def PySem.W.Fast.tw2440091904236610324:=0
def PySem.W.Fast.tw8197113166525141849:=0
def PySem.W.Fast.tw8487445725618633576:=0
def PySem.W.Fast.tw6803851200615452344:=0
def PySem.W.Fast.tw8412558249123407762:=0
def PySem.W.Fast.tw7046000162518750663:=0
def PySem.W.Fast.tw7559490912275261995:=0
def PySem.W.Fast.tw4107846254384649565:=0
def PySem.W.Fast.tw1490759604227332228:=0
def PySem.W.Fast.tw10212552512072718584:=0
def PySem.W.Fast.tw15170092544545664173:=0
def PySem.W.Fast.tw654228534532939651:=0
def PySem.W.Fast.tw8221446179201813910:=0
def PySem.W.Fast.tw11437685846110469644:=0
def PySem.W.Fast.tw7544807871982756883:=0
def PySem.W.Fast.tw4832340578988657067:=0
def PySem.W.Fast.tw14346642169862928899:=0
def PySem.W.Fast.tw6396217874034139615:=0
def PySem.W.Fast.tw17380364349029178508:=0
def PySem.W.Fast.tw7636801880100647795:=0
def PySem.W.Fast.tw5868499678295453116:=0
def PySem.W.Fast.tw3868384915265808721:=0
def PySem.W.Fast.tw66714417460949415:=0
def PySem.W.Fast.tw9665524805324672081:=0
def PySem.W.Fast.tw2023085629404232559:=0
def PySem.W.Fast.tw8557394860441671886:=0
def PySem.W.Fast.tw16167829867651408542:=0
def PySem.W.Fast.tw7445191225864838044:=0
def PySem.W.Fast.tw12156420848714108808:=0
def PySem.W.Fast.tw6872910220200948696:=0
def PySem.W.Fast.tw10864665264142836468:=0
def PySem.W.Fast.tw17014639507865605945:=0
def PySem.W.Fast.tw1648257542926228513:=0
set_option maxHeartbeats 0 in
theorem PySem.Challenge.cw_waletexts_s01_judge_holds : PySem.Challenge.rw_waletexts_s01_judge.Holds := by
 w_on;k_headS;(case hw=>exact⟨[.list []],by decide +kernel,by decide +kernel⟩)
 k_fillS
 refine L2.ED (r:=PySem.Challenge.rw_waletexts_s01_judge) (k:=100) (CX:=L2.bx) (ps:=["t"]) (sp:=Wale.rG) (by decide +kernel) rfl rfl ⟨rfl,by decide,by decide⟩ (fun w h Y=>PySem.W.kIn_of Y) ?F ?S (fun _ _ _ _ z=>z)
 case F=>
  intro w mg fa h Y KX G hmg
  have e:=PySem.W.mg_of KX G (n:="judge") (by k_is)
  cases hmg.symm.trans e
  refine' Wale.all_mk KX G hmg ?_ ?_ ?_ ?_ ?_ ?_ ?_ ?_ ?_ ?_ ?_ ?_ ?_ ?_ ?_ ?_ ?_ ?_ ?_ ?_ ?_ ?_ ?_ ?_ ?_ ?_ ?_ ?_ ?_ ?_ ?_ ?_ ?_ ?_ ?_ ?_ ?_ ?_ ?_ ?_ ?_ ?_ ?_ ?_ ?_ ?_ ?_ ?_ ?_ ?_ ?_ ?_ ?_ ?_ ?_ ?_ ?_ ?_ ?_ ?_ ?_ ?_ ?_ ?_ ?_ ?_ ?_ ?_ ?_ ?_ ?_ ?_ ?_ ?_ ?_ ?_ ?_ ?_ ?_ ?_ ?_ ?_ ?_ ?_ ?_ ?_ ?_ ?_ ?_ ?_ ?_ ?_ ?_ ?_ ?_ ?_ ?_ ?_ ?_ ?_ ?_ ?_ ?_ ?_ ?_ ?_ ?_ ?_ ?_ ?_ ?_ ?_ ?_ ?_ ?_ ?_ ?_ ?_ ?_ ?_ ?_ ?_ ?_ ?_ ?_ ?_ ?_ ?_ ?_ ?_ ?_ ?_ ?_ ?_ ?_ ?_ ?_ ?_ ?_ ?_ ?_ ?_ ?_ ?_ ?_ ?_ ?_ ?_ ?_ ?_ ?_ ?_ ?_ ?_ ?_ ?_ ?_ ?_ ?_ ?_ ?_
  all_goals repeat' first|refine And.intro ?_ ?_|apply Exists.intro|refine' L2.aG.mk ⟨_,_,_,_,_,_,_,_,_,rfl,?_,?_⟩ ?_|refine Wale.rh.mk ?_ ?_|k_is|kit_is|rfl|exact .nil|refine .cons ⟨_,rfl⟩ ?_|fail
 case S=>exact Wale.LF
end
