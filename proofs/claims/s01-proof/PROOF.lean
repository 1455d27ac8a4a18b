import PyProof.Rows.All
import Wide.All
import OpenK.AllK
import Wide.FinOn
import PyProof.EqAt
import PyProof.EqKinds
import PyProof.TupleCall
import KE.BitLaws
import KE.OsGo
import KE.OsEnd
import Open.SpecLaws
import PySem.Challenge.RW_toldtale_s01_answers
set_option Elab.async false
set_option linter.all false
set_option compiler.extract_closed false
set_option maxRecDepth 100000
namespace L2
open PySem PySem.Spec PyProof.Rows
abbrev Key:=Sum Int Str
def Zcn:Key->Value->Bool
 |.inl k,v=>Value.isInt k v
 |.inr x,v=>Value.isStrOf x v
def Zop(w:World):Key->Int
 |.inl k=>hashInt k
 |.inr x=>hashStr w x
theorem Zb3:∀{k:Key}{v:Value},Zcn k v=true->(∃i t,k=Sum.inl i/\v=Value.int i t)\/(∃x t,k=Sum.inr x/\v=Value.str x t)
 |.inl i,v,h=>by
  obtain⟨t,e⟩:=Value.isInt_shape (k:=i) (v:=v) h;exact .inl ⟨i,t,rfl,e⟩
 |.inr x,v,h=>by
  obtain⟨t,e⟩:=Value.isStrOf_shape (x:=x) (v:=v) h;exact .inr ⟨x,t,rfl,e⟩
theorem Zey(i:Int)(t:Tok):Zcn (.inl i) (.int i t)=true:=by simp[Zcn,Value.isInt]
theorem Zoq(x:Str)(t:Tok):Zcn (.inr x) (.str x t)=true:=by simp[Zcn,Value.isStrOf]
theorem Zor(a b:Int):decide ((Sum.inl a:Key)=Sum.inl b)=(a==b):=by
 by_cases e:a=b
 ·subst e;simp
 ·have h:¬(Sum.inl a:Key)=Sum.inl b:=fun q=>e (Sum.inl.inj q);rw[decide_eq_false h];exact(beq_eq_false_iff_ne.mpr e).symm
theorem Zos(a b:Str):decide ((Sum.inr a:Key)=Sum.inr b)=decide (a=b):=by
 by_cases e:a=b
 ·subst e;simp
 ·have h:¬(Sum.inr a:Key)=Sum.inr b:=fun q=>e (Sum.inr.inj q);rw[decide_eq_false h,decide_eq_false e]
theorem Zot(a:Int)(b:Str):decide ((Sum.inl a:Key)=Sum.inr b)=false:=decide_eq_false (fun q=>nomatch q)
theorem Zou(a:Str)(b:Int):decide ((Sum.inr a:Key)=Sum.inl b)=false:=decide_eq_false (fun q=>nomatch q)
def ZaG(prog:Program)(w:World):PySem.KeyKind prog w Key where
 is:=Zcn
 hash:=Zop w
 inj:=fun v a b ha hb=>by
  rcases Zb3 ha with⟨i,t,rfl,rfl⟩|⟨x,t,rfl,rfl⟩
  ·rcases Zb3 hb with⟨j,u,rfl,e⟩|⟨y,u,rfl,e⟩
   ·injection e with e1 _;rw[e1]
   ·exact nomatch e
  ·rcases Zb3 hb with⟨j,u,rfl,e⟩|⟨y,u,rfl,e⟩
   ·exact nomatch e
   ·injection e with e1 _;rw[e1]
 byValue:=fun k v h=>by
  rcases Zb3 h with⟨i,t,rfl,rfl⟩|⟨x,t,rfl,rfl⟩<;>rfl
 pyHash:=fun hv h=>by
  rcases Zb3 hv with⟨i,t,rfl,rfl⟩|⟨x,t,rfl,rfl⟩
  ·exact wpAny_pyHash_int h
  ·exact wpAny_pyHash_str h
 eqBool:=fun hu hv h=>by
  rcases Zb3 hu with⟨i,t,rfl,rfl⟩|⟨x,t,rfl,rfl⟩
  ·rcases Zb3 hv with⟨j,u,rfl,rfl⟩|⟨y,u,rfl,rfl⟩
   ·rw[Zor] at h;exact wpAny_eqBool_int h
   ·rw[Zot] at h;exact SeqAt.EqAt.int_str i t y u _ _ _ _ h
  ·rcases Zb3 hv with⟨j,u,rfl,rfl⟩|⟨y,u,rfl,rfl⟩
   ·rw[Zou] at h;exact SeqAt.EqAt.str_int x t j u _ _ _ _ h
   ·rw[Zos] at h;exact wpAny_eqBool_str h
 «strs»:=fun k x t v h=>by
  rcases Zb3 h with⟨i,u,rfl,e⟩|⟨y,u,rfl,e⟩
  ·exact nomatch e
  ·injection e with e1 _;subst e1;cases v<;>rfl
theorem Zov(prog:Program)(w:World)(i:Int)(t:Tok):(ZaG prog w).is (.inl i) (.int i t)=true:=Zey i t
theorem Zow(prog:Program)(w:World)(x:Str)(t:Tok):(ZaG prog w).is (.inr x) (.str x t)=true:=Zoq x t
end L2
namespace L2
open PySem PySem.Spec PyProof.Rows
inductive V where
 |non|bl (b:Bool)|int (i:Int)|str (x:Str)|byt (b:Array UInt8)|flt (b:UInt64)|ref (a:Addr)|ty (n:String)
 deriving DecidableEq
def RelV:V->Value->Prop
 |.non,u=>u=Value.none
 |.bl b,u=>u=Value.bool b
 |.int i,u=>∃t,u=Value.int i t
 |.str x,u=>∃t,u=Value.str x t
 |.byt b,u=>∃t,u=Value.bytes b t
 |.flt b,u=>∃t,u=Value.float b t
 |.ref a,u=>u=Value.ref a
 |.ty n,u=>u=Value.type n
abbrev Zn:List V->List Value->Prop:=Paired RelV
theorem Zn.length{xs:List V}{us:List Value}(r:Zn xs us):xs.length=us.length:=Paired.length r
theorem Zn.get:∀{xs:List V}{us:List Value}{i:Nat}{x:V},Zn xs us->xs[i]?=some x->∃u,us[i]?=some u/\RelV x u
 |_,_,_,_,.nil,e=>by simp at e
 |_,_,0,_,.cons r _,e=>by simp at e;subst e;exact⟨_,rfl,r⟩
 |_,_,i+1,x,.cons _ t,e=>by
  obtain⟨u,h1,h2⟩:=Zn.get (i:=i) (x:=x) t (by simpa using e);exact⟨u,by simpa using h1,h2⟩
theorem Zn.set{x:V}{u:Value}(r:RelV x u):∀{xs:List V}{us:List Value}(i:Nat),Zn xs us->Zn (xs.set i x) (us.set i u)
 |_,_,_,.nil=>.nil
 |_,_,0,.cons _ t=>.cons r t
 |_,_,i+1,.cons q t=>.cons q (Zn.set r i t)
theorem Zn.append:∀{xs ys:List V}{us ws:List Value},Zn xs us->Zn ys ws->Zn (xs++ys) (us++ws)
 |_,_,_,_,.nil,s=>s
 |_,_,_,_,.cons r t,s=>.cons r (Zn.append t s)
theorem Zn.take:∀{xs:List V}{us:List Value}(n:Nat),Zn xs us->Zn (xs.take n) (us.take n)
 |_,_,0,_=>.nil
 |_,_,_+1,.nil=>.nil
 |_,_,n+1,.cons r t=>.cons r (Zn.take n t)
theorem Zn.drop:∀{xs:List V}{us:List Value}(n:Nat),Zn xs us->Zn (xs.drop n) (us.drop n)
 |_,_,0,r=>r
 |_,_,_+1,.nil=>.nil
 |_,_,n+1,.cons _ t=>Zn.drop n t
def ZaO:Option V->Option Value->Prop
 |some v,some u=>RelV v u
 |none,none=>True
 |_,_=>False
def KV{κ:Type}:List (κ×V)->List (κ×Value)->Prop:=Paired fun(p:κ×V) (q:κ×Value)=>p.1=q.1/\RelV p.2 q.2
def kV:Key->V
 |.inl i=>.int i
 |.inr x=>.str x
inductive HO where
 |lst (xs:List V)
 |tup (xs:List V)
 |dK (kvs:List (Key×V))|dT (kvs:List (List Key×V))
 |set (S:Int->Bool) (n:Nat)
 |ins (C dx:Addr) (fs:List (Str×V))
 |own (x:Addr)
 |xd (fs:List (Str×V))
 |met (f x:Addr)
 |rng (lo hi:Int)
 |frz (o:Obj) (u:HO)
 |tbl (ps:Array Value)
 |ext (φ:Heap->Prop)
abbrev Hp:=Addr->Option HO
def upd(H:Hp)(a:Addr)(o:HO):Hp:=fun b=>if b=a then some o else H b
theorem Zd{H:Hp}{a:Addr}{o:HO}:upd H a o a=some o:=by unfold upd;rw[if_pos rfl]
theorem Zf{H:Hp}{a b:Addr}{o:HO}(h:b≠a):upd H a o b=H b:=by unfold upd;rw[if_neg h]
theorem Z5{H:Hp}{a:Addr}{o u:HO}:upd (upd H a o) a u=upd H a u:=by
 funext b;unfold upd;split<;>rfl
theorem Z6{H:Hp}{a b:Addr}{o u:HO}(h:H a=some o)(h':H b=some u)(d:o≠u):a≠b:=by
 intro e;subst e;rw[h] at h';exact d (Option.some.inj h')
theorem Zk{H:Hp}{a b:Addr}{o:HO}(h:H a=some o)(h':H b=none):a≠b:=by
 intro e;subst e;rw[h] at h';cases h'
section
variable(P:Program)(w:World)
def Zac(H:Hp)(h:Heap)(a:Addr):HO->Prop
 |.lst xs=>xs.length<=sizeLine/\∃(its:List Value)(n:Nat),Zn xs its/\h.get? a=some { cls:=.type "list",data:=.seq its.toArray n }
 |.tup xs=>xs.length<=sizeLine/\∃its:List Value,Zn xs its/\IsTup h a its.toArray
 |.dK kvs=>kvs.length<=sizeLine/\(a==sysModules)=false/\∃vs,KV kvs vs/\h.DictOf (ZaG P w) a vs
 |.dT kvs=>kvs.length<=sizeLine/\(a==sysModules)=false/\∃xs:List (List Key×Addr×Value),
   Paired (fun(p:List Key×V) (q:List Key×Addr×Value)=>p.1=q.1/\H q.2.1=some (.tup (p.1.map kV))/\RelV p.2 q.2.2) kvs xs /\
   ∃o es ep,h.get? a=some o/\o.ExactDict/\o.data=.dict es ep/\es.toList=xs.map (entryOfKey (tupleKind (ZaG P w)))/\(xs.map (·.1)).Nodup
 |.set S n=>h.SetOf (intKind P w) a S n
 |.ins C dx fs=>H dx=some (.own a)/\fs.length<=1000/\dx≠a/\h.get? a=some (PySem.W.instObj C dx) /\
   ∃mA,h.Ns1 dx mA/\(∀f,ZaO (fs.lookup f) (mA f))/\PySem.Within mA (fs.map (·.1))
 |.own _=>∃o,h.get? a=some o
 |.xd fs=>∃mA,h.Ns1 a mA/\∀f,ZaO (fs.lookup f) (mA f)
 |.rng lo hi=>∃t u v,h.get? a=some { cls:=.type "range",data:=.fields #[.int lo t,.int hi u,.int 1 v] }
 |.frz o u=>h.get? a=some o/\Zac H h a u
 |.tbl ps=>h.get? a=some { cls:=.none,data:=.fields ps }
 |.met f x=>h.get? a=some (PySem.W.methodObj (.ref f) (.ref x))
 |.ext φ=>φ h/\(∃o,h.get? a=some o)/\∀h1 h2:Heap,φ h1->(∀o,h1.get? a=some o->h2.get? a=some o)->φ h2
def HOk(H:Hp)(h:Heap):Prop:=∀a o,H a=some o->Zac P w H h a o
end
section
variable{P:Program}{w:World}{H H':Hp}{h h':Heap}{a:Addr}{o:HO}
theorem Zac.lt(x:Zac P w H h a o):a < h.objs.size:=by
 cases o with
 |lst xs=>obtain⟨_,_,_,_,e⟩:=x;exact Heap.lt_size e
 |tup xs=>obtain⟨_,_,_,p⟩:=x;exact p.lt
 |dK kvs=>obtain⟨_,_,_,_,o,_,_,e,_⟩:=x;exact Heap.lt_size e
 |dT kvs=>obtain⟨_,_,_,_,o,_,_,e,_⟩:=x;exact Heap.lt_size e
 |set S n=>obtain⟨o,_,_,_,e,_⟩:=x;exact Heap.lt_size e
 |ins C dx fs=>obtain⟨_,_,_,e,_⟩:=x;exact Heap.lt_size e
 |own y=>obtain⟨_,e⟩:=x;exact Heap.lt_size e
 |xd fs=>obtain⟨_,⟨_,_,_,e,_⟩,_⟩:=x;exact Heap.lt_size e
 |rng lo hi=>obtain⟨_,_,_,e⟩:=x;exact Heap.lt_size e
 |frz ob u=>obtain⟨e,_⟩:=x;exact Heap.lt_size e
 |tbl ps=>exact Heap.lt_size (show h.get? a=some _ from x)
 |met f y=>exact Heap.lt_size (show h.get? a=some _ from x)
 |ext φ=>obtain⟨_,⟨_,e⟩,_⟩:=x;exact Heap.lt_size e
theorem Paired.ZP{α β:Type}{F G:α->β->Prop}:∀{l₁:List α}{l₂:List β},Paired F l₁ l₂->(∀a b,F a b->G a b)->Paired G l₁ l₂
 |_,_,.nil,_=>.nil
 |_,_,.cons r t,f=>.cons (f _ _ r) (Paired.ZP t f)
theorem Zac.Zbw(x:Zac P w H h a o)(k:∀b u,(b=a\/H b=some (.own a))->h.get? b=some u->h'.get? b=some u)
  (ho:∀b,H b=some (.own a)->H' b=some (.own a)) (ht:∀b xs,H b=some (.tup xs)->H' b=some (.tup xs)):Zac P w H' h' a o:=by
 induction o with
 |lst xs=>obtain⟨z,its,n,r,e⟩:=x;exact⟨z,its,n,r,k _ _ (.inl rfl) e⟩
 |tup xs=>obtain⟨z,its,r,ob,e,c⟩:=x;exact⟨z,its,r,ob,k _ _ (.inl rfl) e,c⟩
 |dK kvs=>obtain⟨z,y,vs,r,ob,es,ep,e,c⟩:=x;exact⟨z,y,vs,r,ob,es,ep,k _ _ (.inl rfl) e,c⟩
 |dT kvs =>
  obtain⟨z,y,xs,r,ob,es,ep,e,c⟩:=x;exact⟨z,y,xs,Paired.ZP r fun p q z=>⟨z.1,ht _ _ z.2.1,z.2.2⟩,ob,es,ep,k _ _ (.inl rfl) e,c⟩
 |set S n=>obtain⟨ob,es,ep,t,e,c⟩:=x;exact⟨ob,es,ep,t,k _ _ (.inl rfl) e,c⟩
 |ins C dx fs =>
  obtain⟨d,z,ne,e,mA,⟨od,es,ep,e2,c⟩,r⟩:=x;exact⟨ho _ d,z,ne,k _ _ (.inl rfl) e,mA,⟨od,es,ep,k _ _ (.inr d) e2,c⟩,r⟩
 |own y=>obtain⟨ob,e⟩:=x;exact⟨ob,k _ _ (.inl rfl) e⟩
 |xd fs=>obtain⟨mA,⟨od,es,ep,e,c⟩,r⟩:=x;exact⟨mA,⟨od,es,ep,k _ _ (.inl rfl) e,c⟩,r⟩
 |rng lo hi=>obtain⟨t,u,v,e⟩:=x;exact⟨t,u,v,k _ _ (.inl rfl) e⟩
 |frz ob u ih=>obtain⟨e,q⟩:=x;exact⟨k _ _ (.inl rfl) e,ih q⟩
 |tbl ps =>
  have e:h.get? a=some { cls:=.none,data:=.fields ps }:=x;show h'.get? a=some { cls:=.none,data:=.fields ps };exact k a _ (.inl rfl) e
 |met f y =>
  have e:h.get? a=some (PySem.W.methodObj (.ref f) (.ref y)):=x;show h'.get? a=some (PySem.W.methodObj (.ref f) (.ref y));exact k a _ (.inl rfl) e
 |ext φ=>obtain⟨p,⟨o,e⟩,st⟩:=x;exact⟨st _ _ p fun o q=>k _ _ (.inl rfl) q,⟨o,k _ _ (.inl rfl) e⟩,st⟩
theorem HOk.lt(x:HOk P w H h)(e:H a=some o):a < h.objs.size:=(x a o e).lt
theorem HOk.fresh(x:HOk P w H h)(e:h.objs.size<=a):H a=none:=by
 cases q:H a with
 |none=>rfl
 |some u=>exact absurd (Nat.lt_of_lt_of_le (x.lt q) e) (Nat.lt_irrefl _)
theorem HOk.kept(x:HOk P w H h)(k:∀b u,h.get? b=some u->h'.get? b=some u):HOk P w H h':=fun a o e =>
 (x a o e).Zbw (fun b u _ q=>k b u q) (fun _ q=>q) fun _ _ q=>q
theorem HOk.laid(x:HOk P w H h)(k:∀b u,h.get? b=some u->h'.get? b=some u)(hp:h.objs.size<=a)(new:Zac P w (upd H a o) h' a o):HOk P w (upd H a o) h':=fun b u e=>by
 have hn:=x.fresh hp;by_cases hb:b=a
 ·subst hb;rw[Zd] at e;cases e;exact new
 ·rw[Zf hb] at e;exact(x b u e).Zbw (fun c v _ q=>k c v q) (fun c q=>by rw[Zf (Zk q hn)];exact q) fun c xs q=>by rw[Zf (Zk q hn)];exact q
end
def Rd(H:Hp)(a:Addr)(u:HO):Prop:=H a=some u\/∃o,H a=some (.frz o u)
theorem Rd.ok{P:Program}{w:World}{H:Hp}{h:Heap}{a:Addr}{u:HO}(r:Rd H a u)(x:HOk P w H h):Zac P w H h a u:=by
 rcases r with r|⟨o,r⟩
 ·exact x a u r
 ·obtain⟨_,q⟩:=x a _ r;exact q
def Mut:Option HO->Prop
 |some (.lst _)=>True
 |some (.dK _)=>True
 |some (.dT _)=>True
 |some (.set _ _)=>True
 |some (.ins _ _ _)=>True
 |some (.ext _)=>True
 |_=>False
section
variable{P:Program}{w:World}{H:Hp}{h h':Heap}{x e:Addr}{o':HO}
theorem HOk.write(ok:HOk P w H h)(mu:Mut (H x))(he:e=x\/H e=some (.own x))(k:∀b u,b≠e->h.get? b=some u->h'.get? b=some u)(heo:∃u,h'.get? e=some u)
  (new:Zac P w (upd H x o') h' x o'):HOk P w (upd H x o') h':=fun b u q=>by
 have nown:∀c y,H c=some (.own y)->c≠x:=fun c y r z=>by subst z;rw[r] at mu;exact mu
 have ntup:∀c xs,H c=some (.tup xs)->c≠x:=fun c xs r z=>by subst z;rw[r] at mu;exact mu
 by_cases hb:b=x
 ·subst hb;rw[Zd] at q;cases q;exact new
 ·rw[Zf hb] at q;by_cases hbe:b=e
  ·have q':H b=some (.own x):=by
    rcases he with z|z
    ·exact absurd (hbe.trans z) hb
    ·rw[hbe];exact z
   rw[q] at q';cases q';obtain⟨v,hv⟩:=heo;exact⟨v,by rw[hbe];exact hv⟩
  ·refine(ok b u q).Zbw (fun c v hc r=>k c v ?_ r) (fun c r=>by rw[Zf (nown c b r)];exact r) fun c xs r=>by rw[Zf (ntup c xs r)];exact r
   rcases hc with rfl|hc
   ·exact hbe
   ·rintro rfl;rcases he with z|z
    ·exact nown c b hc z
    ·rw[hc] at z;cases z;exact hb rfl
end
structure Un(fs ex:List Addr)(H H':Hp)(h h':Heap):Prop where
 keep:∀b o,h.get? b=some o->H b=none->b∉fs->b∉ex->h'.get? b=some o
 slot:∀b o,h.get? b=some o->H b=none->b∈fs->b∉ex->∃sl,h'.get? b=some { o with slots:=sl }
 free:∀b o,h.get? b=some o->H b=none->b∉ex->H' b=none
 there:∀b o,h.get? b=some o->b∉ex->∃o',h'.get? b=some o'
 Zbx:∀b xs,H b=some (.tup xs)->H' b=some (.tup xs)
 Zbk:∀b o u,H b=some (.frz o u)->H' b=some (.frz o u)
 Zby:∀b ps,H b=some (.tbl ps)->∃more,H' b=some (.tbl (ps++more))
section
variable{fs fs' ex ex':List Addr}{H H1 H2:Hp}{h h1 h2 h':Heap}{a x e:Addr}{o:HO}
theorem Un.any(u:Un fs ex H H1 h h1){b:Addr}{ob:Obj}(q:h.get? b=some ob)(n:H b=none)(hx:b∉ex):∃sl,h1.get? b=some { ob with slots:=sl }:=by
 by_cases hb:b∈fs
 ·exact u.slot b ob q n hb hx
 ·exact⟨ob.slots,u.keep b ob q n hb hx⟩
theorem Un.kept(k:∀b u,h.get? b=some u->h'.get? b=some u):Un fs ex H H h h' :=
 ⟨fun b ob q _ _ _=>k b ob q,fun b ob q _ _ _=>⟨ob.slots,k b ob q⟩,fun _ _ _ n _=>n,fun b ob q _=>⟨ob,k b ob q⟩,fun _ _ q=>q,fun _ _ _ q=>q,fun _ ps q=>⟨#[],by rw[q];simp⟩⟩
theorem Un.refl:Un fs ex H H h h:=Un.kept fun _ _ q=>q
theorem Un.laid(k:∀b u,h.get? b=some u->h'.get? b=some u)(hp:h.objs.size<=a)(hn:H a=none):Un fs ex H (upd H a o) h h' where
 keep:=fun b u q _ _ _=>k b u q
 slot:=fun b u q _ _ _=>⟨u.slots,k b u q⟩
 free:=fun b u q n _=>by rw[Zf (Nat.ne_of_lt (Nat.lt_of_lt_of_le (Heap.lt_size q) hp))];exact n
 there:=fun b u q _=>⟨u,k b u q⟩
 Zbx:=fun b xs q=>by rw[Zf (Zk q hn)];exact q
 Zbk:=fun b u xs q=>by rw[Zf (Zk q hn)];exact q
 Zby:=fun b ps q=>⟨#[],by rw[Zf (Zk q hn),q];simp⟩
theorem Un.write(mu:Mut (H x))(he:e=x\/H e=some (.own x))(k:∀b u,b≠e->h.get? b=some u->h'.get? b=some u)(heo:∃u,h'.get? e=some u):Un fs ex H (upd H x o) h h':=by
 have hx:∀b,H b=none->b≠x:=fun b n z=>by subst z;rw[n] at mu;exact mu
 have hb:∀b,H b=none->b≠e:=fun b n z=>by
  subst z;rcases he with r|r
  ·exact hx b n r
  ·rw[n] at r;cases r
 have hm:∀b u,H b=some u->¬Mut (some u)->b≠x:=fun b u q nm z=>by subst z;rw[q] at mu;exact nm mu
 refine⟨fun b u q n _ _=>k b u (hb b n) q,fun b u q n _ _=>⟨u.slots,k b u (hb b n) q⟩,fun b u q n _=>by rw[Zf (hx b n)];exact n,fun b u q _=>?_,
  fun b xs q=>by rw[Zf (hm b _ q fun z=>z)];exact q,fun b u xs q=>by rw[Zf (hm b _ q fun z=>z)];exact q,fun b ps q=>⟨#[],by rw[Zf (hm b _ q fun z=>z),q];simp⟩⟩
 by_cases hbe:b=e
 ·subst hbe;exact heo
 ·exact⟨u,k b u hbe q⟩
end
def trk(h:Heap)(H:Hp):List Addr:=(List.range h.objs.size).filter fun a=>(H a).isSome
def Zco(h:Heap)(H:Hp):Heap:=PySem.W.hideAll h (trk h H)
theorem Zox(h:Heap)(H:Hp):(Zco h H).objs.size=h.objs.size:=PySem.W.hideAll_size _ _
theorem Zoy{h:Heap}{H:Hp}{b:Addr}{o:Obj}(e:h.get? b=some o)(n:H b=none):(Zco h H).get? b=some o :=
 PySem.W.hideAll_get _ e fun hm=>by
  have q:(H b).isSome=true:=(List.mem_filter.mp hm).2;rw[n] at q;simp at q
theorem Zoz{h:Heap}{H:Hp}{b:Addr}{o:Obj}(e:(Zco h H).get? b=some o):h.get? b=some o/\H b=none:=by
 have e':h.get? b=some o:=PySem.W.of_hideAll (trk h H) e;refine⟨e',?_⟩;cases q:H b with
 |none=>rfl
 |some x =>
  have hm:b∈trk h H:=List.mem_filter.mpr ⟨List.mem_range.mpr (Heap.lt_size e'),by simp[q]⟩;have z:(Zco h H).get? b=none:=PySem.W.hideAll_none (trk h H) hm;rw[z] at e;cases e
end L2
namespace L2
open PySem PySem.Spec PyProof.Rows
structure Mod(K:PySem.W.Frag)(mg:Str->Option Value)(base:Heap):Prop where
 kin:K.In base
 glob:base.Ns mainGlobals mg
 blt:∃mb,base.Ns builtinsNs mb/\∀x:Str,x≠"__name__"->mb x=bootBuiltins x
 nolimit:base.NoLimit
structure Cx where
 prog:Program
 w:World
 K:PySem.W.Frag
 mg:Str->Option Value
 base:Heap
 A:Around
 N:List Str
 s_0:Shared
 H_0:Hp
 env:Env
 outer:List Env
 stack:List Env
 ex:List Addr
 fn:Str->Bool
 calm:Bool
 pn:List (Addr×Obj)
 xe:Value->Shared->Prop
def frs(l:List Env):List Addr:=l.filterMap (·.frame)
abbrev Cx.fs(X:Cx):List Addr:=frs X.outer
def Vis(sc:Scope)(x:Str):Prop:=sc.names.lookup x=some .local\/sc.names.lookup x=some .cell\/sc.names.lookup x=some .free
def Loc(sc:Scope)(x:Str):Prop:=sc.names.lookup x=some .local\/sc.names.lookup x=some .cell
def Look(env:Env)(h:Heap)(m:Str->Option Value)(x:Str)(u:Value):Prop :=
 (env.kindOf x=some .local/\m x=some u)\/((env.kindOf x=some .cell\/env.kindOf x=some .free)/\∃c,env.cells.lookup x=some c/\h.IsCell c (some u))
structure Cx.Ok(X:Cx):Prop where
 mod:Mod X.K X.mg X.base
 kind:X.env.scope.kind=.function
 glob:X.env.globals=mainGlobals
 blt:X.env.builtins=builtinsNs
 above:X.s_0.heap.objs.size<=X.env.locals
 inj:∀x y c,X.env.cells.lookup x=some c->X.env.cells.lookup y=some c->x=y
 has:∀x,(X.env.kindOf x=some .cell\/X.env.kindOf x=some .free)->∃c,X.env.cells.lookup x=some c
 cab:∀x c,X.fn x=true->X.env.cells.lookup x=some c->X.s_0.heap.objs.size<=c
 hd:X.calm=true->X.A.handled=none
 frames:X.A.frames=some X.stack
 stk:X.stack=X.outer\/(X.stack=X.env::X.outer/\X.env.frame=some X.env.locals)
 exf:∀b∈X.ex,b≠X.env.locals/\∀x c,X.env.cells.lookup x=some c->c≠b
 bs:∀b o,X.base.get? b=some o->X.s_0.heap.get? b=some o/\X.H_0 b=none
 bsz:X.base.objs.size<=X.s_0.heap.objs.size
 Zdb:∀b o,X.base.get? b=some o->b∉X.ex
 Zdc:∀b∈X.ex,b∉X.fs
 Zbl:X.s_0.heap.FunFrames X.base X.outer
 frf:∀b∈X.fs,X.H_0 b=none
structure Inv(X:Cx)(pins:List (Addr×Obj))(σ:List (Option V))(H:Hp)(s:Shared):Prop where
 ok:X.Ok
 os:s.os=X.s_0.os
 bare:AllBare s.gens
 base:Un X.fs X.ex X.H_0 H X.s_0.heap s.heap
 loc:∃m,s.heap.Ns X.env.locals m/\∀(i:Nat)(x:Str)(v:V),X.N[i]?=some x->σ[i]?=some (some v)->Vis X.env.scope x->∃u,RelV v u/\Look X.env s.heap m x u
 cell:∀x c,X.env.cells.lookup x=some c->∃v,s.heap.IsCell c v
 free:H X.env.locals=none
 Za0:∀x c,X.env.cells.lookup x=some c->H c=none
 pin:∀p∈X.pn++pins,s.heap.get? p.1=some p.2/\H p.1=none/\p.1≠X.env.locals/\p.1∉X.fs/\∀v,p.2.data≠.cell v
 hok:HOk X.prog X.w H s.heap
 len:σ.length=X.N.length
section
variable{X:Cx}{pins:List (Addr×Obj)}{σ:List (Option V)}{H H':Hp}{s:Shared}{h':Heap}
theorem Cx.Ok.ZoA(ok:X.Ok){b:Addr}{o:Obj}(e:X.base.get? b=some o):b∉X.fs:=fun hb=>by
 have:=(ok.Zbl.mem hb).1;rw[e] at this;cases this
theorem Inv.bs(I:Inv X pins σ H s):∀b o,X.base.get? b=some o->s.heap.get? b=some o/\H b=none:=fun b o e =>
 ⟨I.base.keep b o (I.ok.bs b o e).1 (I.ok.bs b o e).2 (I.ok.ZoA e) (I.ok.Zdb b o e),I.base.free b o (I.ok.bs b o e).1 (I.ok.bs b o e).2 (I.ok.Zdb b o e)⟩
theorem Inv.bk(I:Inv X pins σ H s):∀b o,X.base.get? b=some o->s.heap.get? b=some o:=fun b o e=>(I.bs b o e).1
theorem Inv.mod(I:Inv X pins σ H s):Mod X.K X.mg X.base:=I.ok.mod
theorem Inv.kIn(I:Inv X pins σ H s):X.K.In s.heap:=I.ok.mod.kin.keeps I.bk
theorem Inv.lt(I:Inv X pins σ H s):X.env.locals < s.heap.objs.size:=let ⟨_,hn,_⟩:=I.loc;hn.lt
theorem Inv.sz(I:Inv X pins σ H s):X.s_0.heap.objs.size<=s.heap.objs.size:=Nat.le_trans I.ok.above (Nat.le_of_lt I.lt)
theorem Inv.ZoB(I:Inv X pins σ H s){a:Addr}(h:s.heap.objs.size<=a):a∉X.fs:=fun hb=>by
 obtain⟨_,o,ho,_⟩:=I.ok.Zbl.mem hb;exact absurd (Nat.lt_of_lt_of_le (Heap.lt_size ho) (Nat.le_trans I.sz h)) (Nat.lt_irrefl _)
theorem Inv.cne(I:Inv X pins σ H s):∀x c,X.env.cells.lookup x=some c->c≠X.env.locals:=fun x c e z=>by
 obtain⟨v,o,ho,hd⟩:=I.cell x c e;obtain⟨m,⟨o',es,ep,ho',hd',_⟩,_⟩:=I.loc;rw[z,ho'] at ho;cases ho;rw[hd'] at hd;cases hd
theorem Inv.Zbl(I:Inv X pins σ H s):s.heap.FunFrames X.base X.outer:=by
 have all:∀(l:List Env),(∀b∈frs l,b∈X.fs)->X.s_0.heap.FunFrames X.base l->s.heap.FunFrames X.base l:=by
  intro l;induction l with
  |nil=>intro _ _;trivial
  |cons env r ih =>
   intro hs hl;obtain⟨hk,⟨L,o,hf,hn,ho,hd⟩,hr⟩:=hl;have hL:L∈X.fs:=hs L (by unfold frs;rw[List.filterMap_cons,hf];exact List.mem_cons_self);obtain⟨sl,e⟩:=I.base.slot L o ho (I.ok.frf L hL) hL fun z=>I.ok.Zdc L z hL;exact⟨hk,⟨L,_,hf,hn,e,hd⟩,ih (fun b hb=>hs b (by unfold frs;rw[List.filterMap_cons,hf];exact List.mem_cons_of_mem _ hb)) hr⟩
 exact all X.outer (fun _ hb=>hb) I.ok.Zbl
theorem Inv.stack(I:Inv X pins σ H s):s.heap.FunFrames X.base X.stack:=by
 rcases I.ok.stk with e|⟨e,hf⟩
 ·rw[e];exact I.Zbl
 ·rw[e];obtain⟨m,hn,_⟩:=I.loc;refine .cons (by rw[I.ok.kind];decide) hf hn ?_ I.Zbl;exact Heap.get?_none_of_le (Nat.le_trans I.ok.bsz I.ok.above)
theorem Inv.Zez(I:Inv X pins σ H s):∀b∈frs X.stack,b∈X.env.locals::X.fs:=fun b hb=>by
 rcases I.ok.stk with e|⟨e,hf⟩
 ·rw[e] at hb;exact List.mem_cons_of_mem _ hb
 ·rw[e] at hb;unfold frs at hb;rw[List.filterMap_cons,hf] at hb;exact hb
theorem Inv.ZgS(I:Inv X pins σ H s):∀b∈frs X.stack,H b=none:=fun b hb=>by
 rcases List.mem_cons.mp (I.Zez b hb) with e|hb
 ·rw[e];exact I.free
 ·obtain⟨_,o,ho,_⟩:=I.ok.Zbl.mem hb;exact I.base.free b o ho (I.ok.frf b hb) fun z=>I.ok.Zdc b z hb
theorem Inv.step{g':Array GenState}{t':Nat}{d':Drawn}{ch:List Addr}(I:Inv X pins σ H s)
  (hch:∀b∈ch,(b∈X.ex\/X.s_0.heap.objs.size<=b)/\b≠X.env.locals/\(∀x c,X.env.cells.lookup x=some c->c≠b)/\∀p∈X.pn++pins,p.1≠b)
  (keep:∀b o,b≠X.env.locals->b∉X.fs->b∉ch->s.heap.get? b=some o->H b=none->h'.get? b=some o)
  (slot:∀b o,b≠X.env.locals->b∈X.fs->b∉ch->s.heap.get? b=some o->H b=none->∃sl,h'.get? b=some { o with slots:=sl }) (free:∀b o,b∉ch->s.heap.get? b=some o->H b=none->H' b=none)
  (there:∀b o,b∉ch->s.heap.get? b=some o->∃o',h'.get? b=some o')
  (Zbx:∀b xs,H b=some (.tup xs)->H' b=some (.tup xs)) (Zbk:∀b o u,H b=some (.frz o u)->H' b=some (.frz o u)) (Zby:∀b ps,H b=some (.tbl ps)->∃more,H' b=some (.tbl (ps++more)))
  (ns:∀m,s.heap.Ns X.env.locals m->h'.Ns X.env.locals m) (hok:HOk X.prog X.w H' h') (hg:AllBare g') :
  Inv X pins σ H' { s with heap:=h',gens:=g',drawn:=d',toks:=t' }:=by
 have neL:∀b o,X.s_0.heap.get? b=some o->b≠X.env.locals:=fun b o e=>Nat.ne_of_lt (Nat.lt_of_lt_of_le (Heap.lt_size e) I.ok.above);have neC:∀b o,X.s_0.heap.get? b=some o->b∉X.ex->b∉ch:=fun b o e hx hb=>by
  rcases(hch b hb).1 with z|z
  ·exact hx z
  ·exact absurd (Nat.lt_of_lt_of_le (Heap.lt_size e) z) (Nat.lt_irrefl _)
 have cellK:∀x c,X.env.cells.lookup x=some c->∀v,s.heap.IsCell c v->h'.IsCell c v:=fun x c e v ⟨o,ho,hd⟩=>by
  have nch:c∉ch:=fun z=>(hch c z).2.2.1 x c e rfl;by_cases hc:c∈X.fs
  ·obtain⟨sl,q⟩:=slot c o (I.cne x c e) hc nch ho (I.Za0 x c e);exact⟨_,q,hd⟩
  ·exact⟨o,keep c o (I.cne x c e) hc nch ho (I.Za0 x c e),hd⟩
 refine⟨I.ok,I.os,hg,⟨fun b o e n hb hx=>?_,fun b o e n hb hx=>?_,fun b o e n hx=>?_,fun b o e hx=>?_,fun b xs e=>Zbx b xs (I.base.Zbx b xs e),fun b o xs e=>Zbk b o xs (I.base.Zbk b o xs e),fun b ps e=>?_⟩,?_,fun x c e=>?_,?_,fun x c e=>?_,fun p hp=>?_,hok,I.len⟩
 ·exact keep b o (neL b o e) hb (neC b o e hx) (I.base.keep b o e n hb hx) (I.base.free b o e n hx)
 ·obtain⟨sl,e1⟩:=I.base.slot b o e n hb hx;obtain⟨sl',e2⟩:=slot b _ (neL b o e) hb (neC b o e hx) e1 (I.base.free b o e n hx);exact⟨sl',e2⟩
 ·obtain⟨o',e1⟩:=I.base.there b o e hx;exact free b o' (neC b o e hx) e1 (I.base.free b o e n hx)
 ·obtain⟨o',e1⟩:=I.base.there b o e hx;exact there b o' (neC b o e hx) e1
 ·obtain⟨m1,e1⟩:=I.base.Zby b ps e;obtain⟨m2,e2⟩:=Zby b _ e1;exact⟨m1++m2,by rw[e2,Array.append_assoc]⟩
 ·obtain⟨m,hn,hl⟩:=I.loc;refine⟨m,ns m hn,fun i x v e1 e2 e3=>?_⟩;obtain⟨u,r,l⟩:=hl i x v e1 e2 e3;refine⟨u,r,?_⟩;rcases l with l|⟨k,c,e,z⟩
  ·exact .inl l
  ·exact .inr ⟨k,c,e,cellK x c e _ z⟩
 ·obtain⟨v,z⟩:=I.cell x c e;exact⟨v,cellK x c e v z⟩
 ·obtain⟨m,⟨o,_,_,ho,_⟩,_⟩:=I.loc;exact free _ o (fun z=>(hch _ z).2.1 rfl) ho I.free
 ·obtain⟨v,o,ho,hd⟩:=I.cell x c e;exact free c o (fun z=>(hch c z).2.2.1 x c e rfl) ho (I.Za0 x c e)
 ·obtain⟨e,n,ne,nf,d⟩:=I.pin p hp;have nch:p.1∉ch:=fun z=>(hch p.1 z).2.2.2 p hp rfl;exact⟨keep p.1 p.2 ne nf nch e n,free p.1 p.2 nch e n,ne,nf,d⟩
theorem Inv.un{t':Nat}(I:Inv X pins σ H s)(u:Un X.fs [] H H' s.heap h')(hok:HOk X.prog X.w H' h'):Inv X pins σ H' { s with heap:=h',toks:=t' }:=by
 obtain⟨m,⟨o,es,ep,ho,r⟩,_⟩:=id I.loc;obtain⟨sl,hL⟩:=u.any ho I.free (by simp);exact I.step (g':=s.gens) (d':=s.drawn) (ch:=[]) (fun _ z=>nomatch z) (fun b o _ hb _ e n=>u.keep b o e n hb (by simp)) (fun b o _ hb _ e n=>u.slot b o e n hb (by simp)) (fun b o _ e n=>u.free b o e n (by simp)) (fun b o _ e=>u.there b o e (by simp)) u.Zbx u.Zbk u.Zby (fun m' hm=>by
  obtain⟨o',es',ep',ho',r'⟩:=hm;rw[ho] at ho';cases ho';exact⟨_,es',ep',hL,r'⟩) hok I.bare
theorem Inv.call{g':Array GenState}{t':Nat}{d':Drawn}{ch:List Addr}(I:Inv X pins σ H s)(u:Un (frs X.stack) ch H H' s.heap h')(hok:HOk X.prog X.w H' h')(hg:AllBare g')
  (hch:∀b∈ch,(b∈X.ex\/X.s_0.heap.objs.size<=b)/\b≠X.env.locals/\(∀x c,X.env.cells.lookup x=some c->c≠b)/\∀p∈X.pn++pins,p.1≠b) :
  Inv X pins σ H' { s with heap:=h',gens:=g',drawn:=d',toks:=t' }:=by
 obtain⟨m,⟨o,es,ep,ho,r⟩,_⟩:=id I.loc;obtain⟨sl,hL⟩:=u.any ho I.free fun z=>(hch _ z).2.1 rfl;exact I.step (ch:=ch) hch (fun b o hL hb hc e n=>u.keep b o e n (fun z=>(List.mem_cons.mp (I.Zez b z)).elim hL hb) hc) (fun b o _ _ hc e n=>u.any e n hc) (fun b o hc e n=>u.free b o e n hc) (fun b o hc e=>u.there b o e hc) u.Zbx u.Zbk u.Zby (fun m' hm=>by
  obtain⟨o',es',ep',ho',r'⟩:=hm;rw[ho] at ho';cases ho';exact⟨_,es',ep',hL,r'⟩) hok hg
theorem Inv.turned{t':Nat}{it:Addr}(I:Inv X pins σ H s)(k:∀b o,b≠it->s.heap.get? b=some o->h'.get? b=some o)(hn:H it=none)(hL:it≠X.env.locals)
  (h1:it∈X.ex\/X.s_0.heap.objs.size<=it) (h2:∀x c,X.env.cells.lookup x=some c->c≠it) (h3:∀p∈X.pn++pins,p.1≠it):Inv X pins σ H { s with heap:=h',toks:=t' }:=by
 have nit:∀b u,H b=some u->b≠it:=fun b u e z=>by rw[z,hn] at e;cases e
 refine I.step (g':=s.gens) (d':=s.drawn) (ch:=[it]) (fun b hb=>?_) (fun b o _ _ hc e _=>k b o (fun z=>hc (by simp[z])) e) (fun b o _ _ hc e _=>⟨o.slots,k b o (fun z=>hc (by simp[z])) e⟩) (fun _ _ _ _ n=>n)
  (fun b o hc e=>⟨o,k b o (fun z=>hc (by simp[z])) e⟩) (fun _ _ e=>e) (fun _ _ _ e=>e) (fun b ps e=>⟨#[],by rw[e];simp⟩) (fun m hm=>?_) (fun b u e=>?_) I.bare
 ·have e:b=it:=by simpa using hb
  subst e;exact⟨h1,hL,h2,h3⟩
 ·obtain⟨o,es,ep,ho,r⟩:=hm;exact⟨o,es,ep,k _ o (Ne.symm hL) ho,r⟩
 ·refine(I.hok b u e).Zbw (fun c v hc q=>k c v ?_ q) (fun _ q=>q) fun _ _ q=>q;rcases hc with z|z
  ·rw[z];exact nit b u e
  ·exact nit c _ z
theorem Inv.tok(I:Inv X pins σ H s)(t:Nat):Inv X pins σ H { s with toks:=t }:=I.un (h':=s.heap) (t':=t) Un.refl I.hok
theorem Inv.kept{t':Nat}(I:Inv X pins σ H s)(k:∀b u,s.heap.get? b=some u->h'.get? b=some u):Inv X pins σ H { s with heap:=h',toks:=t' }:=I.un (Un.kept k) (I.hok.kept k)
theorem Inv.laid{a:Addr}{o:HO}{t':Nat}(I:Inv X pins σ H s)(k:∀b u,s.heap.get? b=some u->h'.get? b=some u)(hp:s.heap.objs.size<=a)(new:Zac X.prog X.w (upd H a o) h' a o) :
  Inv X pins σ (upd H a o) { s with heap:=h',toks:=t' }:=I.un (Un.laid k hp (I.hok.fresh hp)) (I.hok.laid k hp new)
theorem Inv.write{x e:Addr}{o:HO}{t':Nat}(I:Inv X pins σ H s)(mu:Mut (H x))(he:e=x\/H e=some (.own x))(k:∀b u,b≠e->s.heap.get? b=some u->h'.get? b=some u)(heo:∃u,h'.get? e=some u)
  (new:Zac X.prog X.w (upd H x o) h' x o):Inv X pins σ (upd H x o) { s with heap:=h',toks:=t' }:=I.un (Un.write mu he k heo) (I.hok.write mu he k heo new)
theorem Inv.weak{σ':List (Option V)}(I:Inv X pins σ H s)(hl:σ'.length=σ.length)(w:∀(i:Nat) v,σ'[i]?=some (some v)->σ[i]?=some (some v)):Inv X pins σ' H s :=
 ⟨I.ok,I.os,I.bare,I.base,let ⟨m,hn,hl'⟩:=I.loc;⟨m,hn,fun i x v e1 e2 e3=>hl' i x v e1 (w i v e2) e3⟩,I.cell,I.free,I.Za0,I.pin,I.hok,hl.trans I.len⟩
theorem Inv.Zj1{pins':List (Addr×Obj)}(I:Inv X pins σ H s)(h:∀p∈pins',s.heap.get? p.1=some p.2/\H p.1=none/\p.1≠X.env.locals/\p.1∉X.fs/\∀v,p.2.data≠.cell v):Inv X pins' σ H s :=
 ⟨I.ok,I.os,I.bare,I.base,I.loc,I.cell,I.free,I.Za0,fun p hp=>(List.mem_append.mp hp).elim (fun z=>I.pin p (List.mem_append_left _ z)) (h p),I.hok,I.len⟩
theorem ZgT{N:List Str}(hN:N.Nodup){i j:Nat}{x:Str}(a:N[i]?=some x)(b:N[j]?=some x):i=j:=by
 obtain⟨h1,e1⟩:=List.getElem?_eq_some_iff.mp a;obtain⟨h2,e2⟩:=List.getElem?_eq_some_iff.mp b;exact(List.getElem_inj hN).mp (e1.trans e2.symm)
theorem Zj2{M:Model}{A:Around}{E:Value->Shared->Prop}{i:Nat}{x:Str}{v:V}{u:Value}{Q:Unit->Shared->Prop}(I:Inv X pins σ H s)(hN:X.N.Nodup)(hi:X.N[i]?=some x)(hx:Loc X.env.scope x)(r:RelV v u)
  (h:∀s',Inv X pins (σ.set i (some v)) H s'->(∃a,Heap.SameBut a s.heap s'.heap/\(a=X.env.locals\/X.env.cells.lookup x=some a))->Q () s') (hf:X.fn x=true\/X.env.scope.names.lookup x=some .local:=by first|exact .inl rfl|exact .inr rfl|assumption):wpAny M A (storeName X.env x u) Q E s:=by
 obtain⟨m,hn,hl⟩:=id I.loc;have hcls:(X.env.scope.kind==.class||(X.env.scope.kind==.module&&X.env.locals != X.env.globals))=false:=by rw[I.ok.kind];rfl
 have hiσ:i < σ.length:=by rw[I.len];exact(List.getElem?_eq_some_iff.mp hi).1
 have cne:=I.cne;have tracked:∀{a:Addr}{h':Heap},(∃o,s.heap.get? a=some o/\H a=none)->Heap.SameBut a s.heap h'->HOk X.prog X.w H h':=fun{a h'} ha hs b ob e=>by
  obtain⟨_,_,hfree⟩:=ha;refine(I.hok b ob e).Zbw (fun c w' hc q=>(hs.2 c ?_).trans q) (fun _ q=>q) fun _ _ q=>q;rintro rfl;rcases hc with rfl|hc
  ·rw[hfree] at e;cases e
  ·rw[hfree] at hc;cases hc
 rcases hx with hk|hk
 ·refine wpAny_storeName_local hk hn (fun h' hn' hs=>?_) hcls;obtain⟨oL,_,_,hoL,_⟩:=id hn;refine h _ ⟨I.ok,I.os,I.bare,⟨fun b o e n hb hx=>?_,fun b o e n hb hx=>?_,I.base.free,fun b o e hx=>?_,I.base.Zbx,I.base.Zbk,I.base.Zby⟩,⟨_,hn',fun j y v' e1 e2 e3=>?_⟩,fun y c e=>?_,I.free,I.Za0,fun p hp=>?_,tracked ⟨oL,hoL,I.free⟩ hs,by simpa using I.len⟩ ⟨_,hs,.inl rfl⟩
  ·exact(hs.2 b (Nat.ne_of_lt (Nat.lt_of_lt_of_le (Heap.lt_size e) I.ok.above))).trans (I.base.keep b o e n hb hx)
  ·obtain⟨sl,e1⟩:=I.base.slot b o e n hb hx;exact⟨sl,(hs.2 b (Nat.ne_of_lt (Nat.lt_of_lt_of_le (Heap.lt_size e) I.ok.above))).trans e1⟩
  ·obtain⟨o',e1⟩:=I.base.there b o e hx;exact⟨o',(hs.2 b (Nat.ne_of_lt (Nat.lt_of_lt_of_le (Heap.lt_size e) I.ok.above))).trans e1⟩
  ·by_cases hj:j=i
   ·subst hj;rw[hi] at e1;cases e1;rw[List.getElem?_set_self hiσ] at e2;cases e2;exact⟨u,r,.inl ⟨hk,by simp⟩⟩
   ·rw[List.getElem?_set_ne (Ne.symm hj)] at e2;obtain⟨u',r',q⟩:=hl j y v' e1 e2 e3;refine⟨u',r',?_⟩;rcases q with⟨k,e⟩|⟨k,c,e,z⟩
    ·refine .inl ⟨k,?_⟩;have:y≠x:=fun e=>hj (ZgT hN e1 (e▸hi));simp[this,e]
    ·exact .inr ⟨k,c,e,z.sameBut hs (cne y c e)⟩
  ·obtain⟨w',z⟩:=I.cell y c e;exact⟨w',z.sameBut hs (cne y c e)⟩
  ·obtain⟨e,n,ne,nf,d⟩:=I.pin p hp;exact⟨(hs.2 p.1 ne).trans e,n,ne,nf,d⟩
 ·have hfn:X.fn x=true:=by
   rcases hf with z|z
   ·exact z
   ·rw[z] at hk;cases hk
  obtain⟨c,hc⟩:=I.ok.has x (.inl hk);obtain⟨w',z⟩:=I.cell x c hc;refine wpAny_storeName_cell I.ok.kind hk hc z (fun h' hc' hs=>?_);obtain⟨oc,hoc,hocd⟩:=id z;refine h { s with heap:=h' } ⟨I.ok,I.os,I.bare,⟨fun b o e n hb hx=>?_,fun b o e n hb hx=>?_,I.base.free,fun b o e hx=>?_,I.base.Zbx,I.base.Zbk,I.base.Zby⟩,⟨m,hn.sameBut hs (Ne.symm (cne x c hc)),fun j y v' e1 e2 e3=>?_⟩,fun y c' e=>?_,I.free,I.Za0,fun p hp=>?_,tracked ⟨oc,hoc,I.Za0 x c hc⟩ hs,by simpa using I.len⟩ ⟨c,hs,.inr hc⟩
  ·exact(hs.2 b (Nat.ne_of_lt (Nat.lt_of_lt_of_le (Heap.lt_size e) (I.ok.cab x c hfn hc)))).trans (I.base.keep b o e n hb hx)
  ·obtain⟨sl,e1⟩:=I.base.slot b o e n hb hx;exact⟨sl,(hs.2 b (Nat.ne_of_lt (Nat.lt_of_lt_of_le (Heap.lt_size e) (I.ok.cab x c hfn hc)))).trans e1⟩
  ·obtain⟨o',e1⟩:=I.base.there b o e hx;exact⟨o',(hs.2 b (Nat.ne_of_lt (Nat.lt_of_lt_of_le (Heap.lt_size e) (I.ok.cab x c hfn hc)))).trans e1⟩
  ·by_cases hj:j=i
   ·subst hj;rw[hi] at e1;cases e1;rw[List.getElem?_set_self hiσ] at e2;cases e2;exact⟨u,r,.inr ⟨.inl hk,c,hc,hc'⟩⟩
   ·rw[List.getElem?_set_ne (Ne.symm hj)] at e2;obtain⟨u',r',q⟩:=hl j y v' e1 e2 e3;refine⟨u',r',?_⟩;rcases q with q|⟨k,c',e,z'⟩
    ·exact .inl q
    ·refine .inr ⟨k,c',e,z'.sameBut hs ?_⟩;rintro rfl;exact hj (ZgT hN e1 (I.ok.inj _ _ _ e hc▸hi))
  ·by_cases hcc:c'=c
   ·subst hcc;exact⟨_,hc'⟩
   ·obtain⟨w2,z2⟩:=I.cell y c' e;exact⟨w2,z2.sameBut hs hcc⟩
  ·obtain⟨e,n,ne,nf,d⟩:=I.pin p hp;refine⟨(hs.2 p.1 ?_).trans e,n,ne,nf,d⟩;intro q;rw[q,hoc] at e;have q':oc=p.2:=Option.some.inj e;exact d w' (by rw[←q'];exact hocd)
theorem ZgU{M:Model}{A:Around}{E:Value->Shared->Prop}{i:Nat}{x:Str}{v:V}{u:Value}{Q:Unit->Shared->Prop}(I:Inv X pins σ H s)(hN:X.N.Nodup)(hi:X.N[i]?=some x)(hx:Loc X.env.scope x)(r:RelV v u)
  (h:∀s',Inv X pins (σ.set i (some v)) H s'->Q () s') (hf:X.fn x=true\/X.env.scope.names.lookup x=some .local:=by first|exact .inl rfl|exact .inr rfl|assumption):wpAny M A (storeName X.env x u) Q E s :=
 Zj2 I hN hi hx r (fun s' I' _=>h s' I') hf
theorem Inv.ZgV{s':Shared}{ch:List Addr}(I:Inv X pins σ H s)(ho:s'.os=s.os)(u:Un (frs X.stack) ch H H' s.heap s'.heap)(hok:HOk X.prog X.w H' s'.heap)(hg:AllBare s'.gens)
  (hch:∀b∈ch,(b∈X.ex\/X.s_0.heap.objs.size<=b)/\b≠X.env.locals/\(∀x c,X.env.cells.lookup x=some c->c≠b)/\∀p∈X.pn++pins,p.1≠b):Inv X pins σ H' s':=by
 obtain⟨h',g',d',t',o'⟩:=s';have e:o'=s.os:=ho;subst e;exact I.call (g':=g') (t':=t') (d':=d') u hok hg hch
end
abbrev XK:=Value->Option Addr->Hp->Prop
abbrev St:=List (Option V)
abbrev VK:=V->Hp->Prop
abbrev TE:=St->Hp->VK->Prop
abbrev TT:=St->Hp->(Bool->Hp->Prop)->Prop
abbrev TA:=St->Hp->(List V->Hp->Prop)->Prop
structure Ends where
 nx:St->Hp->Prop
 rt:VK
 bk:St->Hp->Prop:=fun _ _=>False
 ct:St->Hp->Prop:=fun _ _=>False
abbrev TS:=Ends->St->Hp->Prop
def EP(X:Cx)(pins:List (Addr×Obj))(σ:St)(Q:VK)(u:Value)(s':Shared):Prop:=∃v H',Inv X pins σ H' s'/\RelV v u/\Q v H'
def TP(X:Cx)(pins:List (Addr×Obj))(σ:St)(Q:Bool->Hp->Prop)(b:Bool)(s':Shared):Prop:=∃H',Inv X pins σ H' s'/\Q b H'
def AP(X:Cx)(pins:List (Addr×Obj))(σ:St)(Q:List V->Hp->Prop)(us:List Value)(s':Shared):Prop:=∃vs H',Inv X pins σ H' s'/\Zn vs us/\Q vs H'
def SP(X:Cx)(pins:List (Addr×Obj))(D:Ends)(f:Flow)(s':Shared):Prop :=
 match f with
 |.next=>∃σ' H',Inv X pins σ' H' s'/\D.nx σ' H'
 |.brk=>∃σ' H',Inv X pins σ' H' s'/\D.bk σ' H'
 |.cont=>∃σ' H',Inv X pins σ' H' s'/\D.ct σ' H'
 |.ret u=>∃v σ' H',Inv X pins σ' H' s'/\RelV v u/\D.rt v H'
def PE(X:Cx)(e:Expr)(t:TE):Prop :=
 ∀(pins:List (Addr×Obj))(s:Shared)(σ:St)(H:Hp)(Q:VK),Inv X pins σ H s->t σ H Q->wpAny (model X.prog X.w) X.A (eval e X.env) (EP X pins σ Q) X.xe s
def PT(X:Cx)(e:Expr)(t:TT):Prop :=
 ∀(pins:List (Addr×Obj))(s:Shared)(σ:St)(H:Hp)(Q:Bool->Hp->Prop),Inv X pins σ H s->t σ H Q->wpAny (model X.prog X.w) X.A (isTrue e X.env (eval e X.env)) (TP X pins σ Q) X.xe s
def PW(X:Cx)(e:Expr)(t:TT):Prop :=
 ∀(whole:Sem Value)(pins:List (Addr×Obj))(s:Shared)(σ:St)(H:Hp)(Q:Bool->Hp->Prop),Inv X pins σ H s->t σ H Q->wpAny (model X.prog X.w) X.A (isTrue e X.env whole) (TP X pins σ Q) X.xe s
theorem PW.pt{X:Cx}{e:Expr}{t:TT}(h:PW X e t):PT X e t:=h _
def PA(X:Cx)(es:List Expr)(t:TA):Prop :=
 ∀(pos:Pos)(pins:List (Addr×Obj))(s:Shared)(σ:St)(H:Hp)(Q:List V->Hp->Prop),Inv X pins σ H s->t σ H Q->wpAny (model X.prog X.w) X.A (spliced (backTo pos (starEach es X.env))) (AP X pins σ Q) X.xe s
def PS(X:Cx)(st:Stmt)(t:TS):Prop :=
 ∀(pins:List (Addr×Obj))(s:Shared)(σ:St)(H:Hp)(D:Ends),Inv X pins σ H s->t D σ H->wpAny (model X.prog X.w) X.A (exec st X.env) (SP X pins D) X.xe s
def PSs(X:Cx)(st:List Stmt)(t:TS):Prop :=
 ∀(pins:List (Addr×Obj))(s:Shared)(σ:St)(H:Hp)(D:Ends),Inv X pins σ H s->t D σ H->wpAny (model X.prog X.w) X.A (execs st X.env) (SP X pins D) X.xe s
theorem thn{α:Type}{t:Sem α}{Q Q':α->Shared->Prop}{M:Model}{A:Around}{E:Value->Shared->Prop}{s:Shared}(h:wpAny M A t Q E s)(hQ:∀a s,Q a s->Q' a s):wpAny M A t Q' E s:=wpAny_mono h hQ fun _ _ x=>x
end L2
namespace L2
open PySem PySem.Spec PyProof.Rows
section
variable{X:Cx}
inductive ZoC(i:Nat)(σ:St)(H:Hp)(Q:VK):Prop
 |mk (v) (_:σ[i]?=some (some v)) (_:Q v H)
def ZH(i:Nat):TE:=fun σ H Q=>ZoC i σ H Q
def tC(v:V):TE:=fun _ H Q=>Q v H
theorem ZoD{i:Nat}{x:Str}{pos:Pos}(hN:X.N[i]?=some x)(hv:Vis X.env.scope x)(hd:(x==("__debug__":Str))=false:=by decide)(hcd:(x==("__classdict__":Str))=false:=by decide):PE X (.Name x pos) (ZH i):=by
 intro pins s σ H Q I h;obtain⟨v,e,h⟩:=h;obtain⟨m,hn,hl⟩:=I.loc;obtain⟨u,r,l⟩:=hl i x v hN e hv;have fin:EP X pins σ Q u s:=⟨v,H,I,r,h⟩
 rcases l with⟨hk,hm⟩|⟨hk,c,hc,hcell⟩
 ·exact wpAny_Name (wpAny_loadName_local I.ok.kind hk hn hm fin) hd
 ·rcases hk with hk|hk
  ·exact wpAny_Name (wpAny_loadName_cell I.ok.kind hk hc hcell fin) hd
  ·exact wpAny_Name (wpAny_loadName_free I.ok.kind hk hc hcell fin hcd) hd
theorem Zr{i j pos}:PE X (.Constant (.int i) j pos) (tC (.int i)):=fun _ _ _ H _ I h=>wpAny_Constant_int ⟨.int i,H,I.tok _,⟨_,rfl⟩,h⟩
theorem ZdM{b j pos}:PE X (.Constant (.bool b) j pos) (tC (.bl b)):=fun _ _ _ H _ I h=>Constant_bool ⟨.bl b,H,I,rfl,h⟩
theorem ZdN{j pos}:PE X (.Constant .none j pos) (tC .non):=fun _ _ _ H _ I h=>Constant_none ⟨.non,H,I,rfl,h⟩
theorem Zad{x j pos}:PE X (.Constant (.str x) j pos) (tC (.str x)):=fun _ _ _ H _ I h=>Calls.Constant_str ⟨.str x,H,I.tok _,⟨_,rfl⟩,h⟩
def Gl(X:Cx)(x:Str):Prop:=X.env.kindOf x=some .globalImplicit
theorem ZdO{E:Value->Shared->Prop}{pins:List (Addr×Obj)}{s:Shared}{σ:St}{H:Hp}{x:Str}{u:Value}{pos:Pos}{Q:Value->Shared->Prop}(I:Inv X pins σ H s)(hg:Gl X x)(hm:X.mg x=some u)(h:Q u s)
  (hd:(x==("__debug__":Str))=false:=by decide):wpAny (model X.prog X.w) X.A (eval (.Name x pos) X.env) Q E s :=
 Calls.Name_function_global I.ok.kind hg (Calls.loadGlobal_global (by rw[I.ok.glob];exact I.mod.glob.keeps I.bk) hm h) hd
theorem Zfp{E:Value->Shared->Prop}{pins:List (Addr×Obj)}{s:Shared}{σ:St}{H:Hp}{x:Str}{u:Value}{pos:Pos}{Q:Value->Shared->Prop}(I:Inv X pins σ H s)(hg:Gl X x)(hm:X.mg x=none)(hv:bootBuiltins x=some u)(h:Q u s)
  (hn:x≠"__name__":=by decide) (hd:(x==("__debug__":Str))=false:=by decide):wpAny (model X.prog X.w) X.A (eval (.Name x pos) X.env) Q E s:=by
 obtain⟨mb,h1,h2⟩:=I.mod.blt;exact Calls.Name_function_global I.ok.kind hg (Calls.loadGlobal_builtin (by rw[I.ok.glob];exact I.mod.glob.keeps I.bk) hm (by rw[I.ok.blt];exact h1.keeps I.bk) ((h2 x hn).trans hv) h) hd
theorem ZdP{x:Str}{v:V}{u:Value}{pos:Pos}(hg:Gl X x)(hm:X.mg x=some u)(r:RelV v u)(hd:(x==("__debug__":Str))=false:=by decide):PE X (.Name x pos) (tC v) :=
 fun _ _ _ H _ I h=>ZdO I hg hm ⟨v,H,I,r,h⟩ hd
variable{a b:Expr}{ta tb:TE}{pos:Pos}
def PC(X:Cx)(op:CmpOp)(a b:Expr)(t:TE):Prop :=
 ∀(pins:List (Addr×Obj))(s:Shared)(σ:St)(H:Hp)(Q:VK),Inv X pins σ H s->t σ H Q ->
  wpAny (model X.prog X.w) X.A (eval a X.env) (fun v s₁=>wpAny (model X.prog X.w) X.A (eval b X.env) (fun u s₂=>wpAny (model X.prog X.w) X.A (compareOp op v u) (EP X pins σ Q) X.xe s₂) X.xe s₁) X.xe s
inductive tBP(x:V)(H1:Hp)(Q:Bool->Hp->Prop):Prop
 |mk (c) (_:x=.bl c) (_:Q c H1)
def tB(t:TE):TT:=fun σ H Q=>t σ H fun x H1=>tBP x H1 Q
theorem Zdd{op:CmpOp}{t:TE}(h:PC X op a b t)(h1:behindInMarks op b=false:=by first|exact ZvV _ (by decide) (by decide)|rfl):PT X (.Compare a [op] [b] pos) (tB t):=by
 intro pins s σ H Q I hw;refine wpAny_isTrue_Compare1 (thn (h pins s σ H _ I hw) fun v s1 h1=>thn h1 fun u s2 h2=>thn h2 fun c s3 ⟨x,H1,I1,r1,q1⟩=>?_) h1;obtain⟨d,rfl,q⟩:=q1;cases r1;exact wpAny_truthy_bool ⟨H1,I1,q⟩
theorem Zam{e:Expr}{t:TE}(h:PE X e t)(he:∀whole,isTrue e X.env whole=(do let v ←whole;standAt e.pos;holding [v] (truthy v)):=by intro _;rfl):PT X e (tB t):=by
 intro pins s σ H Q I hw;refine isTrue_plain (thn (h pins s σ H _ I hw) fun v s1 ⟨x,H1,I1,r1,q1⟩=>?_) (he _);obtain⟨d,rfl,q⟩:=q1;cases r1;exact wpAny_truthy_bool ⟨H1,I1,q⟩
variable{tA tB':TT}{rest:List Expr}
def Zj3(t u:TT):TT:=fun σ H Q=>t σ H fun c H1=>if c=true then u σ H1 Q else Q false H1
def tOr(t u:TT):TT:=fun σ H Q=>t σ H fun c H1=>if c=true then Q true H1 else u σ H1 Q
def ZoE(t:TT):TT:=fun σ H Q=>t σ H fun c H1=>Q (!c) H1
theorem ZdQ(ha:PT X a tA):PW X (.BoolOp .And [a] pos) tA:=by
 intro wh pins s σ H Q I h;refine isTrue_and (thn (ha pins s σ H Q I h) fun c s1 e=>?_);cases c with
 |true=>exact isTrue_and_nil e
 |false=>exact e
theorem Zfq(ha:PT X a tA):PW X (.BoolOp .Or [a] pos) tA:=by
 intro wh pins s σ H Q I h;refine isTrue_or (thn (ha pins s σ H Q I h) fun c s1 e=>?_);cases c with
 |false=>exact isTrue_or_nil e
 |true=>exact e
theorem ZdR(ha:PT X a tA)(hb:PW X (.BoolOp .And (b::rest) pos) tB'):PW X (.BoolOp .And (a::b::rest) pos) (Zj3 tA tB'):=by
 intro wh pins s σ H Q I h;refine isTrue_and (thn (ha pins s σ H _ I h) fun c s1 ⟨H1,I1,q1⟩=>?_);cases c with
 |true=>exact hb wh pins s1 σ H1 Q I1 q1
 |false=>exact⟨H1,I1,q1⟩
theorem ZeA(ha:PT X a tA)(hb:PW X (.BoolOp .Or (b::rest) pos) tB'):PW X (.BoolOp .Or (a::b::rest) pos) (tOr tA tB'):=by
 intro wh pins s σ H Q I h;refine isTrue_or (thn (ha pins s σ H _ I h) fun c s1 ⟨H1,I1,q1⟩=>?_);cases c with
 |true=>exact⟨H1,I1,q1⟩
 |false=>exact hb wh pins s1 σ H1 Q I1 q1
theorem ZcI(ha:PT X a tA):PT X (.UnaryOp .Not a pos) (ZoE tA):=by
 intro pins s σ H Q I h;exact isTrue_not (ha pins s σ H (fun c H1=>Q (!c) H1) I h)
def ZoF(ta tb:TE):TE:=fun σ H Q=>ta σ H fun x H1=>∃c,x=.bl c/\if c=true then tb σ H1 Q else Q (.bl false) H1
def ZoG(ta:TE):TE:=fun σ H Q=>ta σ H fun x H1=>∃c,x=.bl c/\Q (.bl (!c)) H1
theorem ZoH{op}{t:TE}(h:PE X a t):PE X (.BoolOp op [a] pos) t:=fun pins s σ H Q I hw=>BoolOp_one (h pins s σ H Q I hw)
theorem ZoI(ha:PE X a ta)(hb:PE X (.BoolOp .And (b::rest) pos) tb):PE X (.BoolOp .And (a::b::rest) pos) (ZoF ta tb):=by
 intro pins s σ H Q I h;refine BoolOp_and (thn (ha pins s σ H _ I h) fun v s1 ⟨x,H1,I1,r1,q1⟩=>?_);obtain⟨c,rfl,q1⟩:=q1;cases r1;refine wpAny_truthy_bool ?_;cases c with
 |true=>exact hb pins s1 σ H1 Q I1 q1
 |false=>exact⟨.bl false,H1,I1,rfl,q1⟩
theorem ZoJ(ha:PE X a ta):PE X (.UnaryOp .Not a pos) (ZoG ta):=by
 intro pins s σ H Q I h;refine UnaryOp_ (thn (ha pins s σ H _ I h) fun v s1 ⟨x,H1,I1,r1,q1⟩=>?_);obtain⟨c,rfl,q1⟩:=q1;cases r1;exact not_of (wpAny_truthy_bool ⟨.bl (!c),H1,I1,rfl,q1⟩)
def tIf(t:TT)(ta tb:TE):TE:=fun σ H Q=>t σ H fun c H1=>if c=true then ta σ H1 Q else tb σ H1 Q
theorem ZdS{c:Expr}(hc:PT X c tA)(ha:PE X a ta)(hb:PE X b tb):PE X (.IfExp c a b pos) (tIf tA ta tb):=by
 intro pins s σ H Q I h;refine wpAny_IfExp (thn (hc pins s σ H _ I h) fun d s1 ⟨H1,I1,q1⟩=>?_);cases d with
 |true=>exact ha pins s1 σ H1 Q I1 q1
 |false=>exact hb pins s1 σ H1 Q I1 q1
end
end L2
namespace L2
open PySem PySem.Spec PyProof.Rows
def SqL(K:PySem.W.Frag)(H:Hp)(a:Addr)(xs:List V):Prop :=
 Rd H a (.lst xs) \/
  ∃(o:Obj)(its:Array Value)(n:Nat),K.lookup a=some o/\o.cls=.type "list"/\o.dict=none/\o.data=.seq its n/\its.size<=sizeLine/\Zn xs its.toList
def SqT(K:PySem.W.Frag)(H:Hp)(a:Addr)(xs:List V):Prop :=
 Rd H a (.tup xs) \/
  ∃(o:Obj)(its:Array Value)(n:Nat),K.lookup a=some o/\o.cls=.type "tuple"/\o.data=.seq its n/\its.size<=sizeLine/\Zn xs its.toList
def ZoK:Value->Option V
 |.none=>some .non
 |.bool b=>some (.bl b)
 |.int i _=>some (.int i)
 |.str x _=>some (.str x)
 |.bytes b _=>some (.byt b)
 |.float b _=>some (.flt b)
 |.ref a=>some (.ref a)
 |.type n=>some (.ty n)
 |_=>none
theorem RelV.abs{x:V}{u:Value}(r:RelV x u):ZoK u=some x:=by
 cases x with
 |non=>cases r;rfl
 |bl _=>cases r;rfl
 |int _=>obtain⟨t,rfl⟩:=r;rfl
 |str _=>obtain⟨t,rfl⟩:=r;rfl
 |byt _=>obtain⟨t,rfl⟩:=r;rfl
 |flt _=>obtain⟨t,rfl⟩:=r;rfl
 |ref _=>cases r;rfl
 |ty _=>cases r;rfl
theorem RelV.inj{x y:V}{u:Value}(r:RelV x u)(q:RelV y u):x=y:=Option.some.inj (r.abs.symm.trans q.abs)
theorem Zn.inj:∀{xs ys:List V}{us:List Value},Zn xs us->Zn ys us->xs=ys
 |_,_,_,.nil,.nil=>rfl
 |_,_,_,.cons r t,.cons r' t'=>by rw[r.inj r',Zn.inj t t']
section
variable{X:Cx}{pins:List (Addr×Obj)}{σ:St}{H:Hp}{s:Shared}{a:Addr}{xs ys:List V}
theorem SqL.of{K:PySem.W.Frag}(h:H a=some (.lst xs)):SqL K H a xs:=.inl (.inl h)
theorem SqT.of{K:PySem.W.Frag}(h:H a=some (.tup xs)):SqT K H a xs:=.inl (.inl h)
theorem Inv.list(I:Inv X pins σ H s)(h:SqL X.K H a xs):∃its:List Value,Zn xs its/\PlainL s.heap a its.toArray/\xs.length<=sizeLine:=by
 rcases h with h|⟨o,its,n,hk,hc,hd,hs,hz,r⟩
 ·obtain⟨z,its,n,r,e⟩:=h.ok I.hok;exact⟨its,r,⟨_,n,e,rfl,rfl,rfl⟩,z⟩
 ·refine⟨its.toList,r,⟨o,n,I.kIn a o hk,hc,hd,by simpa using hs⟩,?_⟩;have e:=r.length;simp only[Array.length_toList] at e;omega
theorem Inv.tuple(I:Inv X pins σ H s)(h:SqT X.K H a xs):∃its:List Value,Zn xs its/\IsTup s.heap a its.toArray/\xs.length<=sizeLine:=by
 rcases h with h|⟨o,its,n,hk,hc,hs,hz,r⟩
 ·obtain⟨z,its,r,p⟩:=h.ok I.hok;exact⟨its,r,p,z⟩
 ·refine⟨its.toList,r,⟨o,I.kIn a o hk,hc,n,by simpa using hs⟩,?_⟩;have e:=r.length;simp only[Array.length_toList] at e;omega
theorem Inv.Zfr(I:Inv X pins σ H s)(h:SqL X.K H a xs)(h':SqL X.K H a ys):xs=ys:=by
 obtain⟨its,r,⟨o,n,e,_,_,d⟩,_⟩:=I.list h;obtain⟨its',r',⟨o',n',e',_,_,d'⟩,_⟩:=I.list h';rw[e] at e';cases e';rw[d] at d';injection d' with d1 _;have:its=its':=by simpa using congrArg Array.toList d1
 subst this;exact r.inj r'
end
abbrev Cx.Zb4(X:Cx)(E:Value->Shared->Prop):Cx:={ X with xe:=E }
abbrev Cx.nox(X:Cx):Cx:=X.Zb4 fun _ _=>False
theorem Cx.Ok.Zb4{X:Cx}(ok:X.Ok)(E:Value->Shared->Prop):(X.Zb4 E).Ok :=
 ⟨ok.mod,ok.kind,ok.glob,ok.blt,ok.above,ok.inj,ok.has,ok.cab,ok.hd,ok.frames,ok.stk,ok.exf,ok.bs,ok.bsz,ok.Zdb,ok.Zdc,ok.Zbl,ok.frf⟩
theorem Cx.Ok.ZcJ{X:Cx}{E:Value->Shared->Prop}(ok:(X.Zb4 E).Ok):X.Ok :=
 ⟨ok.mod,ok.kind,ok.glob,ok.blt,ok.above,ok.inj,ok.has,ok.cab,ok.hd,ok.frames,ok.stk,ok.exf,ok.bs,ok.bsz,ok.Zdb,ok.Zdc,ok.Zbl,ok.frf⟩
section
variable{X:Cx}{pins:List (Addr×Obj)}{σ:St}{H:Hp}{s:Shared}{E:Value->Shared->Prop}
theorem Inv.Zb4(I:Inv X pins σ H s)(E:Value->Shared->Prop):Inv (X.Zb4 E) pins σ H s:=⟨I.ok.Zb4 E,I.os,I.bare,I.base,I.loc,I.cell,I.free,I.Za0,I.pin,I.hok,I.len⟩
theorem Inv.ZcJ(I:Inv (X.Zb4 E) pins σ H s):Inv X pins σ H s:=⟨I.ok.ZcJ,I.os,I.bare,I.base,I.loc,I.cell,I.free,I.Za0,I.pin,I.hok,I.len⟩
theorem SP.ZcJ{D:Ends}{f:Flow}{s':Shared}(h:SP (X.Zb4 E) pins D f s'):SP X pins D f s':=by
 cases f with
 |next=>obtain⟨σ',H',I,q⟩:=h;exact⟨σ',H',I.ZcJ,q⟩
 |brk=>obtain⟨σ',H',I,q⟩:=h;exact⟨σ',H',I.ZcJ,q⟩
 |cont=>obtain⟨σ',H',I,q⟩:=h;exact⟨σ',H',I.ZcJ,q⟩
 |ret u=>obtain⟨v,σ',H',I,r,q⟩:=h;exact⟨v,σ',H',I.ZcJ,r,q⟩
theorem PSs.nox{st:List Stmt}{t:TS}(h:PSs X.nox st t):PSs X st t:=fun pins s σ H D I hw =>
 wpAny_mono (h pins s σ H D (I.Zb4 _) hw) (fun _ _ q=>q.ZcJ) fun _ _ z=>False.elim z
end
section
variable{X:Cx}{st:Stmt}{rest:List Stmt}{t u:TS}{e:Expr}{te:TE}{pos:Pos}
def ZoL:TS:=fun D σ H=>D.nx σ H
def ZgW(t u:TS):TS:=fun D σ H=>t { D with nx:=u D } σ H
theorem ZD:PSs X [] ZoL:=fun _ _ σ H _ I h=>wpAny_execs_nil ⟨σ,H,I,h⟩
theorem Ze(h1:PS X st t)(h2:PSs X rest u):PSs X (st::rest) (ZgW t u):=by
 intro pins s σ H D I h;refine wpAny_execs_cons (thn (h1 pins s σ H { D with nx:=u D } I h) fun f s1 q=>?_);cases f with
 |next =>
  obtain⟨σ',H',I',q⟩:=q;exact h2 pins s1 σ' H' D I' q
 |ret v=>exact q
 |brk=>exact q
 |cont=>exact q
theorem Zh(h1:PS X st t):PSs X [st] t:=by
 intro pins s σ H D I h;refine wpAny_execs_cons (thn (h1 pins s σ H D I h) fun f s1 q=>?_);cases f with
 |next=>exact wpAny_execs_nil q
 |ret v=>exact q
 |brk=>exact q
 |cont=>exact q
theorem Inv.quiet{pins:List (Addr×Obj)}{σ:St}{H:Hp}{s:Shared}(I:Inv X pins σ H s):interactive X.env=false:=by simp[interactive,I.ok.kind]
def ZgX(te:TE):TS:=fun D σ H=>te σ H fun _ H1=>D.nx σ H1
theorem ZK(he:PE X e te)(hs:swapsWith e none pos.line X.env=pure false:=by rfl):PS X (.Expr e pos) (ZgX te):=by
 intro pins s σ H D I h;exact wpAny_Expr_any (thn (he pins s σ H _ I h) fun v s1 ⟨x,H1,I1,r1,q1⟩=>⟨σ,H1,I1,q1⟩) I.quiet hs
def ZbO(te:TE):TS:=fun D σ H=>te σ H D.rt
theorem Zm(he:PE X e te):PS X (.Return (some e) pos) (ZbO te):=by
 intro pins s σ H D I h;exact wpAny_Return_some (thn (he pins s σ H _ I h) fun v s1 ⟨x,H1,I1,r1,q1⟩=>⟨x,σ,H1,I1,r1,q1⟩)
def ZoM:TS:=fun D _ H=>D.rt .non H
theorem ZoN:PS X (.Return none pos) ZoM:=fun _ _ σ H _ I h=>wpAny_Return_none ⟨.non,σ,H,I,rfl,h⟩
def ZoO(c:TT)(t u:TS):TS:=fun D σ H=>c σ H fun b H1=>if b=true then t D σ H1 else u D σ H1
theorem Zy{c:Expr}{a b:List Stmt}{tc:TT}(hc:PT X c tc)(ha:PSs X a t)(hb:PSs X b u):PS X (.If c a b pos) (ZoO tc t u):=by
 intro pins s σ H D I h;refine wpAny_If (thn (hc pins s σ H _ I h) fun d s1 ⟨H1,I1,q1⟩=>?_);cases d with
 |true=>exact ha pins s1 σ H1 D I1 q1
 |false=>exact hb pins s1 σ H1 D I1 q1
def ZoP:TS:=fun _ _ _=>False
theorem Zj4:PS X st ZoP:=fun _ _ _ _ _ _ h=>h.elim
end
abbrev TG:=V->St->Hp->(St->Hp->Prop)->Prop
abbrev TGs:=List V->St->Hp->(St->Hp->Prop)->Prop
def PG(X:Cx)(target:Expr)(t:TG):Prop :=
 ∀(pins:List (Addr×Obj))(s:Shared)(σ:St)(H:Hp)(v:V)(u:Value)(Q:St->Hp->Prop),Inv X pins σ H s->RelV v u->t v σ H Q ->
  wpAny (model X.prog X.w) X.A (assign target X.env u) (fun _ s'=>∃σ' H',Inv X pins σ' H' s'/\Q σ' H') X.xe s
def PGs(X:Cx)(ts:List Expr)(t:TGs):Prop :=
 ∀(pins:List (Addr×Obj))(s:Shared)(σ:St)(H:Hp)(vs:List V)(us:List Value)(Q:St->Hp->Prop),Inv X pins σ H s->Zn vs us->t vs σ H Q ->
  wpAny (model X.prog X.w) X.A (assignInOrder ((assignEach ts X.env).map (·.2)) us) (fun _ s'=>∃σ' H',Inv X pins σ' H' s'/\Q σ' H') X.xe s
abbrev ZgY:=V->V->V->Hp->(Hp->Prop)->Prop
def Zj5(X:Cx)(t:ZgY):Prop :=
 ∀(pins:List (Addr×Obj))(s:Shared)(σ:St)(H:Hp)(o i v:V)(ov iv u:Value)(Q:Hp->Prop),Inv X pins σ H s->RelV o ov->RelV i iv->RelV v u->t o i v H Q ->
  wpAny (model X.prog X.w) X.A (setItem ov iv u) (fun _ s'=>∃H',Inv X pins σ H' s'/\Q H') X.xe s
abbrev TIp:=V->V->Hp->VK->Prop
def PIp(X:Cx)(op:Operator)(t:TIp):Prop :=
 ∀(pins:List (Addr×Obj))(s:Shared)(σ:St)(H:Hp)(x y:V)(v u:Value)(Q:VK),Inv X pins σ H s->RelV x v->RelV y u->t x y H Q ->
  wpAny (model X.prog X.w) X.A (inplaceOp op v u) (EP X pins σ Q) X.xe s
section
variable{X:Cx}{pos:Pos}
def ZaP(i:Nat):TG:=fun v σ H Q=>Q (σ.set i (some v)) H
theorem ZL{i:Nat}{x:Str}(hN:X.N.Nodup)(hi:X.N[i]?=some x)(hx:Loc X.env.scope x)(hf:X.fn x=true\/X.env.scope.names.lookup x=some .local:=by first|exact .inl rfl|exact .inr rfl|assumption):PG X (.Name x pos) (ZaP i):=by
 intro pins s σ H v u Q I r h;exact wpAny_assign_Name (ZgU I hN hi hx r (fun s' I'=>⟨_,H,I',h⟩) hf)
def Zde:TGs:=fun vs σ H Q=>vs=[]/\Q σ H
inductive ZoQ(t:TG)(u:TGs)(vs:List V)(σ:St)(H:Hp)(Q:St->Hp->Prop):Prop
 |mk (v r) (_:vs=v::r) (_:t v σ H fun σ' H'=>u r σ' H' Q)
def Zbn(t:TG)(u:TGs):TGs:=fun vs σ H Q=>ZoQ t u vs σ H Q
theorem Zbz:PGs X [] Zde:=by
 intro pins s σ H vs us Q I r h;obtain⟨e,h⟩:=h;subst e;cases r;exact assignInOrder_nil ⟨σ,H,I,h⟩
theorem Zal{e:Expr}{es:List Expr}{t:TG}{u:TGs}(h1:PG X e t)(h2:PGs X es u)
  (hs:(assignEach (e::es) X.env).map (·.2)=assign e X.env::(assignEach es X.env).map (·.2):=by rfl):PGs X (e::es) (Zbn t u):=by
 intro pins s σ H vs us Q I r h;obtain⟨v,vr,e1,h⟩:=h;subst e1;cases r with
 |cons r rr =>
  rw[hs];refine assignInOrder_cons (thn (h1 pins s σ H _ _ _ I r h) fun _ s1 ⟨σ1,H1,I1,q1⟩=>?_);exact h2 pins s1 σ1 H1 _ _ Q I1 rr q1
inductive ZoR(K:PySem.W.Frag)(n:Nat)(t:TGs)(v:V)(σ:St)(H:Hp)(Q:St->Hp->Prop):Prop
 |mk (a xs) (_:v=.ref a) (_:SqT K H a xs) (_:xs.length=n) (_:t xs σ H Q)
def Zdf(K:PySem.W.Frag)(n:Nat)(t:TGs):TG:=fun v σ H Q=>ZoR K n t v σ H Q
theorem ZbA{es:List Expr}{k:Nat}{t:TGs}{n:Nat}(hc:X.calm=true)(h:PGs X es t)
  (hn:(assignEach es X.env).length=n:=by rfl) (hst:(assignEach es X.env).findIdx? (·.1)=none:=by rfl):PG X (.Tuple es k pos) (Zdf X.K n t):=by
 intro pins s σ H v u Q I r hw;obtain⟨a,xs,e1,hq,hl,hw⟩:=hw;subst e1;cases r;obtain⟨its,rv,ht,hz⟩:=I.tuple hq;refine assign_Tuple_tuple (I.ok.hd hc) ht (by simp[hn,←hl,rv.length]) hst fun h' hx=>?_;have I1:Inv X pins σ H { s with heap:=h' }:=I.kept (t':=s.toks) fun b o e=>hx b o (Nat.ne_of_lt (Heap.lt_size e)) e;exact h pins _ σ H xs _ Q I1 (by simpa using rv) hw
def ZoS(to ti:TE)(t:ZgY):TG:=fun v σ H Q=>to σ H fun o H1=>ti σ H1 fun i H2=>t o i v H2 fun H3=>Q σ H3
theorem Zj6{o i:Expr}{to ti:TE}{t:ZgY}(ho:PE X o to)(hi:PE X i ti)(hs:Zj5 X t)
  (ha:∀v,assign (.Subscript o i pos) X.env v=(do
   let ov ←holding [v] (eval o X.env)
   let iv ←holding [v,ov] (eval i X.env)
   standAt pos
   holding [v,ov,iv] (setItem ov iv v)
   release [v,ov,iv] []):=by intro _;rfl):PG X (.Subscript o i pos) (ZoS to ti t):=by
 intro pins s σ H v u Q I r h;rw[ha];refine wpAny_bind (wpAny_holding (thn (ho pins s σ H _ I h) fun ov s1 ⟨x,H1,I1,r1,q1⟩=>?_));refine wpAny_bind (wpAny_holding (thn (hi pins s1 σ H1 _ I1 q1) fun iv s2 ⟨y,H2,I2,r2,q2⟩=>?_));refine wpAny_bind (wpAny_standAt (wpAny_bind (wpAny_holding (thn (hs pins s2 σ H2 x y v ov iv u _ I2 r1 r2 r q2) fun _ s3 ⟨H3,I3,q3⟩=>?_))));exact wpAny_release ⟨σ,H3,I3,q3⟩
def ZeB(te:TE)(g:TG):TS:=fun D σ H=>te σ H fun x H1=>g x σ H1 D.nx
theorem Zj7{tg e:Expr}{te:TE}{g:TG}(he:PE X e te)(hg:PG X tg g)(hs:swapsWithSole [tg] e pos.line X.env=pure false:=by rfl)(hw:swappedStores [tg] e X.env=pure none:=by rfl)
  (h1:(assignEach [tg] X.env).map (·.2)=[assign tg X.env]:=by rfl):PS X (.Assign [tg] e pos) (ZeB te g):=by
 intro pins s σ H D I h;refine wpAny_Assign_stores (thn (he pins s σ H _ I h) fun v s1 ⟨x,H1,I1,r1,q1⟩=>?_) hs hw;rw[h1];exact thn (hg pins s1 σ H1 x v _ I1 r1 q1) fun _ s2 q=>q
theorem Zx{i:Nat}{x:Str}{e:Expr}{te:TE}{pos':Pos}(hN:X.N.Nodup)(hi:X.N[i]?=some x)(hx:Loc X.env.scope x)(he:PE X e te)(hs:swapsWith e (some (.Name x pos')) pos.line X.env=pure false:=by rfl)(hf:X.fn x=true\/X.env.scope.names.lookup x=some .local:=by first|exact .inl rfl|exact .inr rfl|assumption) :
  PS X (.Assign [.Name x pos'] e pos) (ZeB te (ZaP i)):=by
 intro pins s σ H D I h;refine wpAny_Assign_Name (thn (he pins s σ H _ I h) fun v s1 ⟨y,H1,I1,r1,q1⟩=>?_) hs;exact ZgU I1 hN hi hx r1 (fun s2 I2=>⟨_,H1,I2,q1⟩) hf
inductive ZoT(i:Nat)(te:TE)(ti:TIp)(D:Ends)(σ:St)(H:Hp):Prop
 |mk (x) (_:σ[i]?=some (some x)) (_:te σ H fun y H1=>ti x y H1 fun z H2=>D.nx (σ.set i (some z)) H2)
def ZoU(i:Nat)(te:TE)(ti:TIp):TS:=fun D σ H=>ZoT i te ti D σ H
theorem ZbP{i:Nat}{x:Str}{e:Expr}{te:TE}{op:Operator}{ti:TIp}{pos':Pos}(hN:X.N.Nodup)(hi:X.N[i]?=some x)(hx:Loc X.env.scope x)(he:PE X e te)(ho:PIp X op ti)(hf:X.fn x=true\/X.env.scope.names.lookup x=some .local:=by first|exact .inl rfl|exact .inr rfl|assumption) :
  PS X (.AugAssign (.Name x pos') op e pos) (ZoU i te ti):=by
 intro pins s σ H D I h;obtain⟨v,e1,h⟩:=h;obtain⟨m,hn,hl⟩:=I.loc;have vis:Vis X.env.scope x:=by rcases hx with k|k;exact .inl k;exact .inr (.inl k)
 obtain⟨u,r,l⟩:=hl i x v hi e1 vis;refine wpAny_AugAssign_Name ?_;have go:wpAny (model X.prog X.w) X.A (eval e X.env) (fun w s₂=>wpAny (model X.prog X.w) X.A (inplaceOp op u w) (fun r s₃=>wpAny (model X.prog X.w) X.A (storeName X.env x r) (fun _=>SP X pins D .next) X.xe s₃) X.xe s₂) X.xe s:=by
  refine thn (he pins s σ H _ I h) fun w s1 ⟨y,H1,I1,r1,q1⟩=>?_;refine thn (ho pins s1 σ H1 v y u w _ I1 r r1 q1) fun z s2 ⟨zv,H2,I2,r2,q2⟩=>?_;exact ZgU I2 hN hi hx r2 (fun s3 I3=>⟨_,H2,I3,q2⟩) hf
 rcases l with⟨hk,hm⟩|⟨hk,c,hc,hcell⟩
 ·exact wpAny_loadName_local I.ok.kind hk hn hm go
 ·rcases hk with hk|hk
  ·exact wpAny_loadName_cell I.ok.kind hk hc hcell go
  ·rcases hx with k|k
   ·have:X.env.scope.names.lookup x=some .free:=hk;rw[k] at this;cases this
   ·have:X.env.scope.names.lookup x=some .free:=hk;rw[k] at this;cases this
inductive ZoV(f:Int->Int->Int)(x y:V)(H:Hp)(Q:VK):Prop
 |mk (i j) (_:x=.int i) (_:y=.int j) (_:Q (.int (f i j)) H)
def ipI(f:Int->Int->Int):TIp:=fun x y H Q=>ZoV f x y H Q
theorem ZcK:PIp X .Add (ipI fun i j=>i+j):=by
 intro pins s σ H x y v u Q I r1 r2 h;obtain⟨i,j,e1,e2,q⟩:=h;subst e1;subst e2;obtain⟨t,rfl⟩:=r1;obtain⟨t',rfl⟩:=r2;exact iadd_int ⟨.int _,H,I.tok _,⟨_,rfl⟩,q⟩
theorem ZoW:PIp X .Sub (ipI fun i j=>i - j):=by
 intro pins s σ H x y v u Q I r1 r2 h;obtain⟨i,j,e1,e2,q⟩:=h;subst e1;subst e2;obtain⟨t,rfl⟩:=r1;obtain⟨t',rfl⟩:=r2;exact isub_int ⟨.int _,H,I.tok _,⟨_,rfl⟩,q⟩
end
section
variable{X:Cx}{pos:Pos}
def Zj8(c:TT)(tb:TS):TS:=fun D σ H=>∃W:Nat->St->Hp->Prop,(∃m,W m σ H)/\∀m σ H,W m σ H ->
 c σ H fun b H1=>if b=true then∃N:St->Hp->Prop,(∀σ' H',N σ' H'->∃m',m' < m/\W m' σ' H')/\tb { D with nx:=N,ct:=N,bk:=D.nx } σ H1 else D.nx σ H1
theorem ZbB{c:Expr}{body:List Stmt}{tc:TT}{tb:TS}(hp:PassesOwn (model X.prog X.w) X.A X.env X.xe)(hc:PT X c tc)(hb:PSs X body tb):PS X (.While c body [] pos) (Zj8 tc tb):=by
 intro pins s σ H D I h;obtain⟨W,⟨m0,w0⟩,turn⟩:=h;refine wpAny_While (codeAny_whileLoop (fun n s'=>∃σ' H',Inv X pins σ' H' s'/\W n σ' H') ?_ m0 ⟨σ,H,I,w0⟩);rintro n s1 ⟨σ1,H1,I1,w1⟩;refine wpAny_passesOwn hp (thn (hc pins s1 σ1 H1 _ I1 (turn n σ1 H1 w1)) fun b s2 ⟨H2,I2,q2⟩=>?_);cases b with
 |true =>
  obtain⟨N,hN,q2⟩:=q2;rw[if_pos rfl];refine wpAny_passesOwn hp (thn (hb pins s2 σ1 H2 _ I2 q2) fun f s3 q3=>?_);cases f with
  |next =>
   obtain⟨σ3,H3,I3,n3⟩:=q3;obtain⟨m',hm,w3⟩:=hN σ3 H3 n3;exact⟨m',hm,σ3,H3,I3,w3⟩
  |cont =>
   obtain⟨σ3,H3,I3,n3⟩:=q3;obtain⟨m',hm,w3⟩:=hN σ3 H3 n3;exact⟨m',hm,σ3,H3,I3,w3⟩
  |brk=>exact q3
  |ret v=>exact q3
 |false =>
  rw[if_neg Bool.false_ne_true];exact wpAny_execs_nil ⟨σ1,H2,I2,q2⟩
end
structure It where
 go:Nat->Hp->Prop
 yld:Nat->Hp->V->Hp->Prop
 stop:Nat->Hp->Prop
def ZbC(X:Cx)(pins:List (Addr×Obj))(H:Hp)(b:Addr):Prop :=
 H b=none/\b≠X.env.locals/\b∉X.fs/\(b∈X.ex\/X.s_0.heap.objs.size<=b)/\(∀x c,X.env.cells.lookup x=some c->c≠b)/\∀p∈X.pn++pins,p.1≠b
theorem Inv.ZeC{X:Cx}{pins:List (Addr×Obj)}{σ:St}{H H':Hp}{s:Shared}{b:Addr}(I:Inv X pins σ H s)(hb:s.heap.objs.size<=b)(hn:H' b=none):ZbC X pins H' b:=by
 refine⟨hn,Nat.ne_of_gt (Nat.lt_of_lt_of_le I.lt hb),I.ZoB hb,.inr (Nat.le_trans I.sz hb),fun x c e z=>?_,fun p hp z=>?_⟩
 ·obtain⟨v,q⟩:=I.cell x c e;exact absurd (Nat.lt_of_lt_of_le q.lt (by rw[z];exact hb)) (Nat.lt_irrefl _)
 ·exact absurd (Nat.lt_of_lt_of_le (Heap.lt_size (I.pin p hp).1) (by rw[z];exact hb)) (Nat.lt_irrefl _)
structure Turn(P:Program)(w:World)(K:PySem.W.Frag)(tg:Expr)(J:It)(fp:List Addr)(it:Addr)(tn:Nat->Heap->Prop):Prop where
 mem:it∈fp
 obj:∀i h,tn i h->∀b∈fp,∃o,h.get? b=some o/\∀v,o.data≠.cell v
 keep:∀i h h',tn i h->(∀b∈fp,∀o,h.get? b=some o->h'.get? b=some o)->tn i h'
 item:∀(X:Cx),X.prog=P->X.w=w->X.K=K->X.calm=true->∀(i:Nat)(pins:List (Addr×Obj))(s:Shared)(σ:St)(H:Hp)(E:Value->Shared->Prop),Inv X pins σ H s->(∀b∈fp,ZbC X pins H b)->tn i s.heap->J.go i H ->
  wpAny (model P w) X.A (pyNext (.ref it)) (fun r s1=>∃u,r=some u /\
   wpAny (model P w) X.A (letOwnedTupleGo tg (.ref it) u) (fun _ s2=>∃x H',Inv X pins σ H' s2/\RelV x u/\J.yld i H x H'/\tn (i+1) s2.heap/\∀b∈fp,H' b=none) E s1) E s
 done:∀(X:Cx),X.prog=P->X.w=w->X.K=K->X.calm=true->∀(i:Nat)(pins:List (Addr×Obj))(s:Shared)(σ:St)(H:Hp)(E:Value->Shared->Prop),Inv X pins σ H s->(∀b∈fp,ZbC X pins H b)->tn i s.heap->J.stop i H ->
  wpAny (model P w) X.A (pyNext (.ref it)) (fun r s1=>r=none/\Inv X pins σ H s1) E s
 self:∀(A:Around)(i:Nat)(s:Shared)(Q:Value->Shared->Prop)(E:Value->Shared->Prop),tn i s.heap->Q (.ref it) s->wpAny (model P w) A (pyIter (.ref it)) Q E s
abbrev TI:=St->Hp->(It->Hp->Prop)->Prop
def PIE(X:Cx)(pins:List (Addr×Obj))(σ:St)(tg:Expr)(R:It->Hp->Prop)(itv:Value)(s2:Shared):Prop :=
 ∃(it:Addr)(fp:List Addr)(tn:Nat->Heap->Prop)(J:It)(H':Hp),itv=.ref it/\Inv X pins σ H' s2/\Turn X.prog X.w X.K tg J fp it tn/\tn 0 s2.heap/\(∀b∈fp,ZbC X pins H' b)/\R J H'
def PI(X:Cx)(tg iter:Expr)(wi:TI):Prop :=
 ∀(pins:List (Addr×Obj))(s:Shared)(σ:St)(H:Hp)(R:It->Hp->Prop),Inv X pins σ H s->wi σ H R ->
  wpAny (model X.prog X.w) X.A (eval iter X.env) (fun v s1=>wpAny (model X.prog X.w) X.A (pyIter v) (PIE X pins σ tg R) X.xe s1) X.xe s
theorem Zj9{M:Model}{A:Around}{E:Value->Shared->Prop}{s:Shared}{tg:Expr}{it:Addr}{u:Value}{o:Obj}{n:String}{vs:Array Value}{Q:Unit->Shared->Prop}(ho:s.heap.get? it=some o)(hc:o.cls=.type n)(hd:o.data=.fields vs)
  (hn:["enumerate","zip","dict_itemiterator","dict_reverseitemiterator","odict_iterator","itertools.zip_longest","itertools.pairwise"].contains n=false) (hQ:Q () s):wpAny M A (letOwnedTupleGo tg (.ref it) u) Q E s:=by
 unfold letOwnedTupleGo;cases tg<;>first
  |exact wpAny_pure hQ
  |(cases u<;>first
    |exact wpAny_pure hQ
    |(refine wpAny_bind (wpAny_load ho ?_)
      rw[hc,hd]
      show wpAny M A (if(["enumerate","zip","dict_itemiterator","dict_reverseitemiterator","odict_iterator","itertools.zip_longest","itertools.pairwise"].contains n&&vs[0]?==some (rawInt _))=true then _ else _) Q E s
      rw[if_neg (by intro h;rw[hn,Bool.false_and] at h;cases h)]
      exact wpAny_pure hQ))
def Itl(K:PySem.W.Frag)(a:Addr):It :=
 ⟨fun i H=>∃xs x,SqL K H a xs/\xs[i]?=some x,fun i H x H'=>H'=H/\∀xs,SqL K H a xs->xs[i]?=some x,fun i H=>∃xs,SqL K H a xs/\xs.length<=i⟩
theorem ZoX{P:Program}{w:World}{K:PySem.W.Frag}{tg:Expr}(a it:Addr):Turn P w K tg (Itl K a) [it] it (fun i h=>h.IsListIter it a i) where
 mem:=by simp
 obj:=fun i h st b hb=>by
  have e:b=it:=by simpa using hb
  subst e;obtain⟨o,e,c,d⟩:=st;exact⟨o,e,fun v z=>by rw[d] at z;cases z⟩
 keep:=fun i h h' st k=>st.at fun o e=>k it (by simp) o e
 item:=by
  intro X hP hw hK hc i pins s σ H E I hf st hg;subst hP hw hK;obtain⟨xs,x,hq,hx⟩:=hg;obtain⟨its,rv,p,hz⟩:=I.list hq;obtain⟨u,hu,ru⟩:=rv.get hx;obtain⟨f0,f1,f2,f3,f4,f5⟩:=hf it (by simp);refine wpAny_pyNext_list_item st p.isList (x:=u) (by simpa using hu) fun h' st' sb=>?_;have I1:Inv X pins σ H { s with heap:=h' }:=I.turned (t':=s.toks) (fun b o hb e=>(sb.2 b hb).trans e) f0 f1 f3 f4 f5;obtain⟨o,e,c,d⟩:=id st';exact⟨u,rfl,Zj9 (s:={ s with heap:=h' }) e c d (by decide) ⟨x,H,I1,ru,⟨rfl,fun ys hy=>by rw[I.Zfr hy hq];exact hx⟩,st',fun b hb=>(hf b hb).1⟩⟩
 done:=by
  intro X hP hw hK hc i pins s σ H E I hf st hg;subst hP hw hK;obtain⟨xs,hq,hx⟩:=hg;obtain⟨its,rv,p,hz⟩:=I.list hq;obtain⟨f0,f1,f2,f3,f4,f5⟩:=hf it (by simp);have hl:=rv.length;exact wpAny_pyNext_list_end (I.ok.hd hc) st p.isList (by simp;omega) fun h' eb=>⟨rfl,I.turned (t':=s.toks) (fun b o hb e=>eb b o hb e) f0 f1 f3 f4 f5⟩
 self:=fun _ _ _ _ _ st h=>wpAny_pyIter_listiter st h
end L2
namespace L2
open PySem PySem.Spec PyProof.Rows
section
variable{X:Cx}{tg:Expr}
inductive ZoY(K:PySem.W.Frag)(x:V)(H1:Hp)(R:It->Hp->Prop):Prop
 |mk (a) (_:x=.ref a) (_:(∃xs,SqL K H1 a xs)) (_:R (Itl K a) H1)
def ZoZ(K:PySem.W.Frag)(tl:TE):TI:=fun σ H R=>tl σ H fun x H1=>ZoY K x H1 R
theorem Zaw{l:Expr}{tl:TE}(hl:PE X l tl):PI X tg l (ZoZ X.K tl):=by
 intro pins s σ H R I h;refine thn (hl pins s σ H _ I h) fun v s1 ⟨x,H1,I1,r1,q1⟩=>?_;obtain⟨a,e,⟨xs,hq⟩,q⟩:=q1;subst e;cases r1;obtain⟨its,rv,p,hz⟩:=I1.list hq;refine wpAny_pyIter_list p.isList ?_;refine⟨s1.heap.objs.size,[s1.heap.objs.size],_,_,H1,rfl,I1.kept (t':=s1.toks) fun b o e=>Heap.get?_push_of_some _ e,ZoX a _,⟨_,Heap.get?_push_size _ rfl,rfl,rfl⟩,fun b hb=>?_,q⟩;have e:b=s1.heap.objs.size:=by simpa using hb
 subst e;exact I1.ZeC (Nat.le_refl _) (I1.hok.fresh (Nat.le_refl _))
def Zo0(wi:TI)(g:TG)(tb:TS):TS:=fun D σ H=>wi σ H fun J H1=>∃W:Nat->Nat->St->Hp->Prop,(∃m,W 0 m σ H1)/\∀i m σ H,W i m σ H ->
 (J.stop i H/\D.nx σ H)\/(J.go i H/\∃N:St->Hp->Prop,(∀σ' H',N σ' H'->∃m',m' < m/\W (i+1) m' σ' H')/\∀x H',J.yld i H x H'->g x σ H' fun σ2 H2=>tb { D with nx:=N,ct:=N,bk:=D.nx } σ2 H2)
def ZeD(fp:List Addr)(h:Heap):List (Addr×Obj):=fp.filterMap fun b=>(h.get? b).map fun o=>(b,o)
theorem ZgZ{fp:List Addr}{h:Heap}{b:Addr}{o:Obj}(hb:b∈fp)(e:h.get? b=some o):(b,o)∈ZeD fp h:=List.mem_filterMap.mpr ⟨b,hb,by rw[e];rfl⟩
theorem Zo1{fp:List Addr}{h:Heap}{p:Addr×Obj}(hp:p∈ZeD fp h):p.1∈fp/\h.get? p.1=some p.2:=by
 obtain⟨b,hb,e⟩:=List.mem_filterMap.mp hp;cases q:h.get? b with
 |none=>rw[q] at e;cases e
 |some o =>
  rw[q] at e;have e':(b,o)=p:=Option.some.inj e;subst e';exact⟨hb,q⟩
theorem Inv.pinned{pins:List (Addr×Obj)}{σ:St}{H:Hp}{s:Shared}{fp:List Addr}(I:Inv X pins σ H s)(hf:∀b∈fp,ZbC X pins H b)(ho:∀b∈fp,∃o,s.heap.get? b=some o/\∀v,o.data≠.cell v):Inv X (pins++ZeD fp s.heap) σ H s :=
 I.Zj1 fun p hp=>(List.mem_append.mp hp).elim (fun z=>I.pin p (List.mem_append_right _ z)) fun z=>by
  obtain⟨hb,e⟩:=Zo1 z;obtain⟨f0,f1,f2,_⟩:=hf p.1 hb;obtain⟨o,e',d⟩:=ho p.1 hb;rw[e] at e';cases e';exact⟨e,f0,f1,f2,d⟩
theorem Inv.Zfs{pins pl:List (Addr×Obj)}{σ:St}{H:Hp}{s:Shared}(I:Inv X (pins++pl) σ H s):Inv X pins σ H s:=I.Zj1 fun p hp=>I.pin p (List.mem_append_right _ (List.mem_append_left _ hp))
theorem Za1{iter:Expr}{body:List Stmt}{wi:TI}{g:TG}{tb:TS}{pos:Pos}(hp:PassesOwn (model X.prog X.w) X.A X.env X.xe)(hc:X.calm=true)(hi:PI X tg iter wi)(hg:PG X tg g)(hb:PSs X body tb)
  (hs:∀x,foldedSetIterable iter X.env x=pure x:=by intro _;rfl):PS X (.For tg iter body [] pos) (Zo0 wi g tb):=by
 intro pins s σ H D I h;refine wpAny_For (thn (hi pins s σ H _ I h) fun v s1 h1=>thn h1 fun itv s2 h2=>?_) hs;obtain⟨it,fp,tn,J,H2,e,I2,T,st2,f2,W,⟨m0,w0⟩,turn⟩:=h2;subst e;have Zcp:∀{H':Hp},(∀b∈fp,H' b=none)->∀b∈fp,ZbC X pins H' b:=fun hn b hb=>⟨hn b hb,(f2 b hb).2⟩
 refine codeAny_forLoop_any (fun n s'=>∃i σ' H',Inv X pins σ' H' s'/\tn i s'.heap/\(∀b∈fp,H' b=none)/\W i n σ' H') ?_ m0 ⟨0,σ,H2,I2,st2,fun b hb=>(f2 b hb).1,w0⟩;rintro n s3 ⟨i,σ3,H3,I3,st3,fr3,w3⟩;rcases turn i n σ3 H3 w3 with⟨stop,qn⟩|⟨go,N,hN,step⟩
 ·refine wpAny_passesOwn hp (thn (T.done X rfl rfl rfl hc i pins s3 σ3 H3 X.xe I3 (Zcp fr3) st3 stop) fun r s4 ⟨hr,I4⟩=>?_);subst hr;exact wpAny_execs_nil ⟨σ3,H3,I4,qn⟩
 ·refine wpAny_passesOwn hp (thn (T.item X rfl rfl rfl hc i pins s3 σ3 H3 X.xe I3 (Zcp fr3) st3 go) fun r s4 ⟨u,hr,h4⟩=>?_);subst hr;refine wpAny_passesOwn hp (thn h4 fun _ s5 ⟨x,H5,I5,r5,y5,st5,fr5⟩=>?_);have I5':=I5.pinned (Zcp fr5) (T.obj _ _ st5);refine wpAny_passesOwn hp (thn (hg _ s5 σ3 H5 x u _ I5' r5 (step x H5 y5)) fun _ s6 ⟨σ6,H6,I6,q6⟩=>?_);refine wpAny_passesOwn hp (thn (hb _ s6 σ6 H6 _ I6 q6) fun f s7 q7=>?_);have again:∀{σ7:St}{H7:Hp},Inv X (pins++ZeD fp s5.heap) σ7 H7 s7->N σ7 H7->∃m,m < n/\∃i σ' H',Inv X pins σ' H' s7/\tn i s7.heap/\(∀b∈fp,H' b=none)/\W i m σ' H':=fun{σ7 H7} I7 n7=>by
   obtain⟨m',hm,w7⟩:=hN σ7 H7 n7;refine⟨m',hm,i+1,σ7,H7,I7.Zfs,T.keep _ _ _ st5 fun b hb o e=>(I7.pin (b,o) (List.mem_append_right _ (List.mem_append_right _ (ZgZ hb e)))).1,fun b hb=>?_,w7⟩;obtain⟨o,e,d⟩:=T.obj _ _ st5 b hb;exact(I7.pin (b,o) (List.mem_append_right _ (List.mem_append_right _ (ZgZ hb e)))).2.1
  cases f with
  |next=>obtain⟨σ7,H7,I7,n7⟩:=q7;exact again I7 n7
  |cont=>obtain⟨σ7,H7,I7,n7⟩:=q7;exact again I7 n7
  |brk=>obtain⟨σ7,H7,I7,q7⟩:=q7;exact⟨σ7,H7,I7.Zfs,q7⟩
  |ret v=>obtain⟨x7,σ7,H7,I7,r7,q7⟩:=q7;exact⟨x7,σ7,H7,I7.Zfs,r7,q7⟩
end
theorem Za9{K:PySem.W.Frag}{a:Addr}{xs:List V}{g:TG}{tb:TS}{D:Ends}{σ:St}{H:Hp}(Pv:Nat->St->Hp->Prop)(h0:Pv 0 σ H)(hl:∀i σ H,i<=xs.length->Pv i σ H->SqL K H a xs)
  (hs:∀i x σ H,xs[i]?=some x->Pv i σ H->g x σ H fun σ2 H2=>tb { D with nx:=Pv (i+1),ct:=Pv (i+1),bk:=D.nx } σ2 H2) (hd:∀σ H,Pv xs.length σ H->D.nx σ H) :
  ∃W:Nat->Nat->St->Hp->Prop,(∃m,W 0 m σ H)/\∀i m σ H,W i m σ H ->
   ((Itl K a).stop i H/\D.nx σ H)\/((Itl K a).go i H/\∃N:St->Hp->Prop,(∀σ' H',N σ' H'->∃m',m' < m/\W (i+1) m' σ' H')/\∀x H',(Itl K a).yld i H x H'->g x σ H' fun σ2 H2=>tb { D with nx:=N,ct:=N,bk:=D.nx } σ2 H2):=by
 refine⟨fun i m σ H=>m=xs.length - i/\i<=xs.length/\Pv i σ H,⟨xs.length,by simp,Nat.zero_le _,h0⟩,?_⟩;rintro i m σ H ⟨rfl,hi,p⟩;have q:=hl i σ H hi p;by_cases hlt:i < xs.length
 ·refine .inr ⟨⟨xs,xs[i],q,by simp[hlt]⟩,Pv (i+1),fun σ' H' p'=>⟨xs.length - (i+1),by omega,rfl,hlt,p'⟩,fun x H' y=>?_⟩;obtain⟨e,y⟩:=y;subst e;exact hs i x σ _ (y xs q) p
 ·have e:i=xs.length:=by omega
  subst e;exact .inl ⟨⟨xs,q,Nat.le_refl _⟩,hd σ H p⟩
end L2
namespace L2
open PySem PySem.Spec PyProof.Rows
abbrev R2:=V->V->Hp->VK->Prop
def OpR(X:Cx)(f:Value->Value->Sem Value)(r:R2):Prop :=
 ∀(pins:List (Addr×Obj))(s:Shared)(σ:St)(H:Hp)(x y:V)(v u:Value)(Q:VK),Inv X pins σ H s->RelV x v->RelV y u->r x y H Q ->
  wpAny (model X.prog X.w) X.A (f v u) (EP X pins σ Q) X.xe s
def UnR(X:Cx)(f:Value->Sem Value)(r:V->Hp->VK->Prop):Prop :=
 ∀(pins:List (Addr×Obj))(s:Shared)(σ:St)(H:Hp)(x:V)(v:Value)(Q:VK),Inv X pins σ H s->RelV x v->r x H Q ->
  wpAny (model X.prog X.w) X.A (f v) (EP X pins σ Q) X.xe s
def ZbQ(X:Cx)(f:Value)(r:List V->Hp->VK->Prop):Prop :=
 ∀(pins:List (Addr×Obj))(s:Shared)(σ:St)(H:Hp)(xs:List V)(us:List Value)(Q:VK),Inv X pins σ H s->Zn xs us->r xs H Q ->
  wpAny (model X.prog X.w) X.A (call f us) (EP X pins σ Q) X.xe s
def Zo2(X:Cx)(r:V->Hp->(Bool->Hp->Prop)->Prop):Prop :=
 ∀(pins:List (Addr×Obj))(s:Shared)(σ:St)(H:Hp)(x:V)(v:Value)(Q:Bool->Hp->Prop),Inv X pins σ H s->RelV x v->r x H Q ->
  wpAny (model X.prog X.w) X.A (truthy v) (TP X pins σ Q) X.xe s
def tOp(r:R2)(ta tb:TE):TE:=fun σ H Q=>ta σ H fun x H1=>tb σ H1 fun y H2=>r x y H2 Q
def tUn(r:V->Hp->VK->Prop)(ta:TE):TE:=fun σ H Q=>ta σ H fun x H1=>r x H1 Q
inductive Zo3(g:Int->Int->V)(x y:V)(H:Hp)(Q:VK):Prop
 |mk (i j) (_:x=.int i) (_:y=.int j) (_:Q (g i j) H)
def rI0(g:Int->Int->V):R2:=fun x y H Q=>Zo3 g x y H Q
inductive rUP(g:Int->V)(x:V)(H:Hp)(Q:VK):Prop
 |mk (i) (_:x=.int i) (_:Q (g i) H)
def rU(g:Int->V):V->Hp->VK->Prop:=fun x H Q=>rUP g x H Q
section
variable{X:Cx}{a b c:Expr}{ta tb tc:TE}{pos:Pos}
theorem Zg0(ha:PE X a ta)(hb:PE X b tb){pins:List (Addr×Obj)}{s:Shared}{σ:St}{H:Hp}{R:V->V->Hp->Prop}(I:Inv X pins σ H s)
  (h:ta σ H fun x H1=>tb σ H1 fun y H2=>R x y H2) {Q:Value->Shared->Prop} {f:Value->Value->Sem Value}
  (hf:∀v u s2 x y H2,Inv X pins σ H2 s2->RelV x v->RelV y u->R x y H2->wpAny (model X.prog X.w) X.A (f v u) Q X.xe s2) :
  wpAny (model X.prog X.w) X.A (eval a X.env) (fun v s₁=>wpAny (model X.prog X.w) X.A (eval b X.env) (fun u s₂=>wpAny (model X.prog X.w) X.A (f v u) Q X.xe s₂) X.xe s₁) X.xe s:=by
 refine thn (ha pins s σ H _ I h) fun v s1 ⟨x,H1,I1,r1,q1⟩=>?_;refine thn (hb pins s1 σ H1 _ I1 q1) fun u s2 ⟨y,H2,I2,r2,q2⟩=>?_;exact hf v u s2 x y H2 I2 r1 r2 q2
theorem ZY{op:Operator}{r:R2}(ho:OpR X (binaryOp op) r)(ha:PE X a ta)(hb:PE X b tb):PE X (.BinOp a op b pos) (tOp r ta tb):=by
 intro pins s σ H Q I h;exact wpAny_BinOp (Zg0 ha hb I h fun v u s2 x y H2 I2 rx ry q=>ho pins s2 σ H2 x y v u Q I2 rx ry q)
theorem Zg1{op:UnaryOp}{r:V->Hp->VK->Prop}(ho:UnR X (unaryOp op) r)(ha:PE X a ta):PE X (.UnaryOp op a pos) (tUn r ta):=by
 intro pins s σ H Q I h;exact UnaryOp_ (thn (ha pins s σ H _ I h) fun v s1 ⟨x,H1,I1,r1,q1⟩=>ho pins s1 σ H1 x v Q I1 r1 q1)
theorem Zft{f:Value->Value->Sem Value}{g:Int->Int->Int}
  (rule:∀(i j:Int)(t u:Tok)(s:Shared)(Q:Value->Shared->Prop)(E:Value->Shared->Prop),Q (.int (g i j) s.toks) { s with toks:=s.toks+1 }->wpAny (model X.prog X.w) X.A (f (.int i t) (.int j u)) Q E s) :
  OpR X f (rI0 fun i j=>.int (g i j)):=by
 intro pins s σ H x y v u Q I rx ry h;obtain⟨i,j,rfl,rfl,q⟩:=h;obtain⟨t,rfl⟩:=rx;obtain⟨t',rfl⟩:=ry;exact rule i j t t' s _ _ ⟨.int (g i j),H,I.tok _,⟨_,rfl⟩,q⟩
theorem Zfu{f:Value->Value->Sem Value}{g:Int->Int->Bool}
  (rule:∀(i j:Int)(t u:Tok)(s:Shared)(Q:Value->Shared->Prop)(E:Value->Shared->Prop),Q (.bool (g i j)) s->wpAny (model X.prog X.w) X.A (f (.int i t) (.int j u)) Q E s) :
  OpR X f (rI0 fun i j=>.bl (g i j)):=by
 intro pins s σ H x y v u Q I rx ry h;obtain⟨i,j,rfl,rfl,q⟩:=h;obtain⟨t,rfl⟩:=rx;obtain⟨t',rfl⟩:=ry;exact rule i j t t' s _ _ ⟨.bl (g i j),H,I,rfl,q⟩
theorem ZbD:OpR X (binaryOp .Add) (rI0 fun i j=>.int (i+j)):=Zft fun _ _ _ _ _ _ _ q=>add_int q
theorem Zb5:OpR X (binaryOp .Sub) (rI0 fun i j=>.int (i - j)):=Zft fun _ _ _ _ _ _ _ q=>sub_int q
theorem ZeE:OpR X (binaryOp .BitAnd) (rI0 fun i j=>.int (Builtin.bitAnd i j)):=Zft fun _ _ _ _ _ _ _ q=>and_int q
theorem Zo4:OpR X (binaryOp .BitOr) (rI0 fun i j=>.int (Builtin.bitOr i j)):=Zft fun _ _ _ _ _ _ _ q=>or_int q
theorem unI{f:Value->Sem Value}{g:Int->Int}
  (rule:∀(i:Int)(t:Tok)(s:Shared)(Q:Value->Shared->Prop)(E:Value->Shared->Prop),Q (.int (g i) s.toks) { s with toks:=s.toks+1 }->wpAny (model X.prog X.w) X.A (f (.int i t)) Q E s) :
  UnR X f (rU fun i=>.int (g i)):=by
 intro pins s σ H x v Q I rx h;obtain⟨i,rfl,q⟩:=h;obtain⟨t,rfl⟩:=rx;exact rule i t s _ _ ⟨.int (g i),H,I.tok _,⟨_,rfl⟩,q⟩
theorem Zg2:UnR X (unaryOp .USub) (rU fun i=>.int (-i)):=unI fun _ _ _ _ _ q=>neg_int q
end
def ZeF:V->V->Bool
 |.non,.non=>true|.non,.int _=>true|.int _,.non=>true|.non,.bl _=>true|.bl _,.non=>true|.non,.str _=>true|.str _,.non=>true
 |.int _,.int _=>true|.bl _,.bl _=>true|.str _,.str _=>true|.byt _,.byt _=>true
 |.int _,.str _=>true|.str _,.int _=>true|.bl _,.str _=>true|.str _,.bl _=>true
 |_,_=>false
def rEq:R2:=fun x y H Q=>ZeF x y=true/\Q (.bl (decide (x=y))) H
def rNe:R2:=fun x y H Q=>ZeF x y=true/\Q (.bl (!decide (x=y))) H
theorem Zka{i j:Int}:decide (V.int i=V.int j)=(i==j):=by
 rw[Bool.eq_iff_iff];simp
theorem Zkb{i j:Bool}:decide (V.bl i=V.bl j)=(i==j):=by
 rw[Bool.eq_iff_iff];simp
theorem Zkc{i j:Str}:decide (V.str i=V.str j)=(i==j):=by
 rw[Bool.eq_iff_iff];simp
theorem Zkd{i j:Array UInt8}:decide (V.byt i=V.byt j)=(i.toList==j.toList):=by
 rw[Bool.eq_iff_iff];cases i;cases j;simp
section
variable{X:Cx}{a b c:Expr}{ta tb tc:TE}{pos:Pos}
theorem Zae{pins:List (Addr×Obj)}{σ:St}{H:Hp}{s:Shared}{Q:VK}{k k':Bool}(I:Inv X pins σ H s)(q:Q (.bl k) H)(e:k=k'):EP X pins σ Q (.bool k') s:=by
 subst e;exact⟨.bl k,H,I,rfl,q⟩
theorem Z9:OpR X (compareOp .Eq) rEq:=by
 intro pins s σ H x y v u Q I rx ry h;obtain⟨hs,q⟩:=h;cases x with
 |non =>
  cases rx;cases y with
  |non=>cases ry;exact PySem.EqNone.eq_none_none (Zae I q (by simp))
  |bl j=>cases ry;exact PySem.EqNone.eq_none_bool (Zae I q (by simp))
  |int j=>obtain⟨t',rfl⟩:=ry;exact PySem.EqNone.eq_none_int (Zae I q (by simp))
  |str j=>obtain⟨t',rfl⟩:=ry;exact PySem.EqNone.eq_none_str (Zae I q (by simp))
  |_=>exact absurd (show false=true from hs) Bool.false_ne_true
 |bl i =>
  cases rx;cases y with
  |non=>cases ry;exact PySem.EqNone.eq_bool_none (Zae I q (by simp))
  |bl j=>cases ry;exact eq_bool (Zae I q Zkb)
  |str j=>obtain⟨t',rfl⟩:=ry;exact PySem.EqMixed.eq_bool_str (Zae I q (by simp))
  |_=>exact absurd (show false=true from hs) Bool.false_ne_true
 |int i =>
  obtain⟨t,rfl⟩:=rx;cases y with
  |non=>cases ry;exact PySem.EqNone.eq_int_none (Zae I q (by simp))
  |int j=>obtain⟨t',rfl⟩:=ry;exact eq_int (Zae I q Zka)
  |str j=>obtain⟨t',rfl⟩:=ry;exact PySem.EqMixed.eq_int_str (Zae I q (by simp))
  |_=>exact absurd (show false=true from hs) Bool.false_ne_true
 |str i =>
  obtain⟨t,rfl⟩:=rx;cases y with
  |non=>cases ry;exact PySem.EqNone.eq_str_none (Zae I q (by simp))
  |bl j=>cases ry;exact PySem.EqMixed.eq_str_bool (Zae I q (by simp))
  |int j=>obtain⟨t',rfl⟩:=ry;exact PySem.EqMixed.eq_str_int (Zae I q (by simp))
  |str j=>obtain⟨t',rfl⟩:=ry;exact eq_str (Zae I q Zkc)
  |_=>exact absurd (show false=true from hs) Bool.false_ne_true
 |byt i =>
  obtain⟨t,rfl⟩:=rx;cases y with
  |byt j=>obtain⟨t',rfl⟩:=ry;exact PySem.W.eq_bytes (Zae I q Zkd)
  |_=>exact absurd (show false=true from hs) Bool.false_ne_true
 |_=>cases y<;>exact absurd (show false=true from hs) Bool.false_ne_true
theorem Zdg:OpR X (compareOp .NotEq) rNe:=by
 intro pins s σ H x y v u Q I rx ry h;obtain⟨hs,q⟩:=h;cases x with
 |non =>
  cases rx;cases y with
  |non=>cases ry;exact PySem.EqNone.ne_none_none (Zae I q (by simp))
  |bl j=>cases ry;exact PySem.EqNone.ne_none_bool (Zae I q (by simp))
  |int j=>obtain⟨t',rfl⟩:=ry;exact PySem.EqNone.ne_none_int (Zae I q (by simp))
  |str j=>obtain⟨t',rfl⟩:=ry;exact PySem.EqNone.ne_none_str (Zae I q (by simp))
  |_=>exact absurd (show false=true from hs) Bool.false_ne_true
 |bl i =>
  cases rx;cases y with
  |non=>cases ry;exact PySem.EqNone.ne_bool_none (Zae I q (by simp))
  |bl j=>cases ry;exact ne_bool (Zae I q (congrArg not Zkb))
  |str j=>obtain⟨t',rfl⟩:=ry;exact PySem.EqMixed.ne_bool_str (Zae I q (by simp))
  |_=>exact absurd (show false=true from hs) Bool.false_ne_true
 |int i =>
  obtain⟨t,rfl⟩:=rx;cases y with
  |non=>cases ry;exact PySem.EqNone.ne_int_none (Zae I q (by simp))
  |int j=>obtain⟨t',rfl⟩:=ry;exact ne_int (Zae I q (congrArg not Zka))
  |str j=>obtain⟨t',rfl⟩:=ry;exact PySem.EqMixed.ne_int_str (Zae I q (by simp))
  |_=>exact absurd (show false=true from hs) Bool.false_ne_true
 |str i =>
  obtain⟨t,rfl⟩:=rx;cases y with
  |non=>cases ry;exact PySem.EqNone.ne_str_none (Zae I q (by simp))
  |bl j=>cases ry;exact PySem.EqMixed.ne_str_bool (Zae I q (by simp))
  |int j=>obtain⟨t',rfl⟩:=ry;exact PySem.EqMixed.ne_str_int (Zae I q (by simp))
  |str j=>obtain⟨t',rfl⟩:=ry;exact ne_str (Zae I q (congrArg not Zkc))
  |_=>exact absurd (show false=true from hs) Bool.false_ne_true
 |byt i =>
  obtain⟨t,rfl⟩:=rx;cases y with
  |byt j=>obtain⟨t',rfl⟩:=ry;exact PySem.W.ne_bytes (Zae I q (congrArg not Zkd))
  |_=>exact absurd (show false=true from hs) Bool.false_ne_true
 |_=>cases y<;>exact absurd (show false=true from hs) Bool.false_ne_true
theorem Zcq:OpR X (compareOp .Lt) (rI0 fun i j=>.bl (decide (i < j))):=Zfu fun _ _ _ _ _ _ _ q=>lt_int q
theorem ZbR:OpR X (compareOp .LtE) (rI0 fun i j=>.bl (decide (i<=j))):=Zfu fun _ _ _ _ _ _ _ q=>le_int q
theorem ZdT:OpR X (compareOp .Gt) (rI0 fun i j=>.bl (decide (j < i))):=Zfu fun _ _ _ _ _ _ _ q=>gt_int q
theorem Zke:OpR X (compareOp .GtE) (rI0 fun i j=>.bl (decide (j<=i))):=Zfu fun _ _ _ _ _ _ _ q=>ge_int q
theorem Zkf:OpR X (compareOp .Is) (fun x y H Q=>y=.non/\Q (.bl (decide (x=.non))) H):=by
 intro pins s σ H x y v u Q I rx ry h;obtain⟨rfl,q⟩:=h;cases ry;refine is_none_gen (Zae I q ?_);cases x<;>first
  |(cases rx;rfl)
  |(obtain⟨t,rfl⟩:=rx;rfl)
theorem Zz(b:Expr){op:CmpOp}(h:op≠.In:=by decide)(h2:op≠.NotIn:=by decide):behindInMarks op b=false:=by
 have e1:(op==CmpOp.In)=false:=by cases op<;>first|rfl|exact absurd rfl h
 have e2:(op==CmpOp.NotIn)=false:=by cases op<;>first|rfl|exact absurd rfl h2
 cases b<;>simp[behindInMarks,e1,e2]
theorem Zg3{op:CmpOp}{r:R2}(ho:OpR X (compareOp op) r)(ha:PE X a ta)(hb:PE X b tb)(hm:behindInMarks op b=false):PE X (.Compare a [op] [b] pos) (tOp r ta tb):=by
 intro pins s σ H Q I h;exact wpAny_Compare1 (Zg0 ha hb I h fun v u s2 x y H2 I2 rx ry q=>ho pins s2 σ H2 x y v u Q I2 rx ry q) hm
inductive Zo5(x:V)(H':Hp)(Q:Bool->Hp->Prop):Prop
 |mk (k) (_:x=.bl k) (_:Q k H')
def ZcL(t:TE):TT:=fun σ H Q=>t σ H fun x H'=>Zo5 x H' Q
theorem ZC{op:CmpOp}{r:R2}(ho:OpR X (compareOp op) r)(ha:PE X a ta)(hb:PE X b tb)(hm:behindInMarks op b=false):PT X (.Compare a [op] [b] pos) (ZcL (tOp r ta tb)):=by
 intro pins s σ H Q I h;refine wpAny_isTrue_Compare1 (thn (ha pins s σ H _ I h) fun v s1 ⟨x,H1,I1,r1,q1⟩=>thn (hb pins s1 σ H1 _ I1 q1) fun u s2 ⟨y,H2,I2,r2,q2⟩ =>
  thn (ho pins s2 σ H2 x y v u _ I2 r1 r2 q2) fun c s3 ⟨z,H3,I3,r3,k,e,q3⟩=>?_) hm
 subst e;cases r3;exact wpAny_truthy_bool ⟨H3,I3,q3⟩
def Zkg(r r':R2)(ta tb tc:TE):TE:=fun σ H Q=>ta σ H fun x H1=>tb σ H1 fun y H2=>r x y H2 fun z H3=>∃k,z=.bl k /\
 (if k=true then tc σ H3 fun w' H4=>r' y w' H4 Q else Q (.bl false) H3)
theorem Zg4{op op':CmpOp}{r r':R2}(ho:OpR X (compareOp op) r)(ho':OpR X (compareOp op') r')(ha:PE X a ta)(hb:PE X b tb)(hc:PE X c tc)
  (hm:lastMarks [op,op'] [b,c]=false:=by with_unfolding_all rfl):PE X (.Compare a [op,op'] [b,c] pos) (Zkg r r' ta tb tc):=by
 intro pins s σ H Q I h;refine Compare_chain (thn (ha pins s σ H _ I h) fun v s1 ⟨x,H1,I1,r1,q1⟩=>chain_link (thn (hb pins s1 σ H1 _ I1 q1) fun u s2 ⟨y,H2,I2,r2,q2⟩ =>
  thn (ho pins s2 σ H2 x y v u _ I2 r1 r2 q2) fun d s3 ⟨z,H3,I3,r3,k,e,q3⟩=>?_)) hm
 subst e;cases r3;refine wpAny_truthy_bool ?_;cases k with
 |false=>exact ite_ff ⟨.bl false,H3,I3,rfl,q3⟩
 |true=>exact ite_tt (chain_last (thn (hc pins s3 σ H3 _ I3 q3) fun w' s4 ⟨z',H4,I4,r4,q4⟩=>ho' pins s4 σ H4 y z' u w' Q I4 r2 r4 q4))
theorem Zkh{op op':CmpOp}{r r':R2}(ho:OpR X (compareOp op) r)(ho':OpR X (compareOp op') r')(ha:PE X a ta)(hb:PE X b tb)(hc:PE X c tc)
  (hm:lastMarks [op,op'] [b,c]=false:=by with_unfolding_all rfl):PT X (.Compare a [op,op'] [b,c] pos) (ZcL (Zkg r r' ta tb tc)):=by
 intro pins s σ H Q I h;refine isTrue_chain (thn (ha pins s σ H _ I h) fun v s1 ⟨x,H1,I1,r1,q1⟩=>test_link (thn (hb pins s1 σ H1 _ I1 q1) fun u s2 ⟨y,H2,I2,r2,q2⟩ =>
  thn (ho pins s2 σ H2 x y v u _ I2 r1 r2 q2) fun d s3 ⟨z,H3,I3,r3,k,e,q3⟩=>?_)) hm
 subst e;cases r3;refine wpAny_truthy_bool ?_;cases k with
 |false =>
  obtain⟨k',e',q'⟩:=q3;cases e';exact ite_ff ⟨H3,I3,q'⟩
 |true =>
  refine ite_tt (test_last (thn (hc pins s3 σ H3 _ I3 q3) fun w' s4 ⟨z',H4,I4,r4,q4⟩=>thn (ho' pins s4 σ H4 y z' u w' _ I4 r2 r4 q4) fun d' s5 ⟨z2,H5,I5,r5,k2,e2,q5⟩=>?_));subst e2;cases r5;exact wpAny_truthy_bool ⟨H5,I5,q5⟩
def Zg5(K:PySem.W.Frag)(x:V)(H:Hp)(k:Bool):Prop :=
 match x with
 |.non=>k=false
 |.bl b=>k=b
 |.int i=>k=(i != 0)
 |.str y=>y.length<=sizeLine/\k=((y.length:Int) != 0)
 |.byt y=>y.size<=sizeLine/\k=((y.size:Int) != 0)
 |.ref p=>(∃xs,SqL K H p xs/\k=!xs.isEmpty)\/(∃xs,SqT K H p xs/\k=!xs.isEmpty)\/∃kvs,H p=some (.dK kvs)/\k=!kvs.isEmpty
 |_=>False
theorem Zo6{κ:Type}{kvs:List (κ×V)}{vs:List (κ×Value)}(r:KV kvs vs):(!vs.isEmpty)=!kvs.isEmpty:=by
 cases r<;>rfl
theorem Zki{xs:List V}{its:List Value}(r:Zn xs its):(!its.toArray.isEmpty)=!xs.isEmpty:=by
 cases r<;>simp
theorem ZdU:(sizeLine:Nat) < 2 ^ 63:=by rw[sizeLine_eq];decide
theorem Zo7:Zo2 X (fun x H Q=>∃k,Zg5 X.K x H k/\Q k H):=by
 intro pins s σ H x v Q I rx h;obtain⟨k,e,q⟩:=h;have hl:=ZdU;have hs:sizeLine=16777216:=sizeLine_eq;cases x with
 |non =>
  cases rx;have e':k=false:=e;subst e';exact truthy_none ⟨H,I,q⟩
 |bl b =>
  cases rx;have e':k=b:=e;subst e';exact wpAny_truthy_bool ⟨H,I,q⟩
 |int i =>
  obtain⟨t,rfl⟩:=rx;have e':k=(i != 0):=e;subst e';exact PySem.P.truthy_int ⟨H,I,q⟩
 |str y =>
  obtain⟨t,rfl⟩:=rx;obtain⟨hy,e'⟩:y.length<=sizeLine/\k=((y.length:Int) != 0):=e;subst e';exact PySem.P.truthy_str (by omega) ⟨H,I.tok _,q⟩
 |byt y =>
  obtain⟨t,rfl⟩:=rx;obtain⟨hy,e'⟩:y.size<=sizeLine/\k=((y.size:Int) != 0):=e;subst e';exact PySem.W.truthy_bytes (by omega) ⟨H,I.tok _,q⟩
 |ref p =>
  cases rx;have e':(∃xs,SqL X.K H p xs/\k=!xs.isEmpty)\/(∃xs,SqT X.K H p xs/\k=!xs.isEmpty)\/∃kvs,H p=some (.dK kvs)/\k=!kvs.isEmpty:=e;rcases e' with⟨xs,hx,e'⟩|⟨xs,hx,e'⟩|⟨kvs,hx,e'⟩
  ·subst e';obtain⟨its,r,pl,hz⟩:=I.list hx;have hlen:=r.length;exact wpAny_truthy_list pl.isList (by simp only[List.size_toArray];omega) ⟨H,I.tok _,by rw[Zki r];exact q⟩
  ·subst e';obtain⟨its,r,pl,hz⟩:=I.tuple hx;have hlen:=r.length;exact truthy_tuple pl (by simp only[List.size_toArray];omega) ⟨H,I.tok _,by rw[Zki r];exact q⟩
  ·subst e';obtain⟨hz,hS,vs,r,m⟩:kvs.length<=sizeLine/\(p==sysModules)=false/\∃vs,KV kvs vs/\s.heap.DictOf (ZaG X.prog X.w) p vs:=I.hok p _ hx;have hlen:kvs.length=vs.length:=Paired.length r;exact wpAny_truthy_dict hS m (by omega) ⟨H,I.tok _,by rw[Zo6 r];exact q⟩
 |_=>exact(show False from e).elim
theorem Zo8(ha:PE X a ta)(he:∀whole,isTrue a X.env whole=(do let v ←whole;standAt a.pos;holding [v] (truthy v))) :
  PT X a (fun σ H Q=>ta σ H fun x H'=>∃k,Zg5 X.K x H' k/\Q k H'):=by
 intro pins s σ H Q I h;exact isTrue_plain (thn (ha pins s σ H _ I h) fun v s1 ⟨x,H1,I1,r1,q1⟩=>Zo7 pins s1 σ H1 x v Q I1 r1 q1) (he _)
theorem vals1{x:V}{us:List Value}(r:Zn [x] us):∃u,us=[u]/\RelV x u:=by
 cases r with
 |cons r1 r2=>cases r2;exact⟨_,rfl,r1⟩
end
end L2
namespace L2
open PySem PySem.Spec PyProof.Rows
structure Zdh(h:Heap)(x dx C:Addr)(mA:Str->Option Value):Prop where
 obj:h.get? x=some (PySem.W.instObj C dx)
 ns:h.Ns1 dx mA
 ne:dx≠x
theorem Zo9{h:Heap}{dx:Addr}{mA:Str->Option Value}(n:h.Ns1 dx mA):∃od,h.get? dx=some od/\∀name,PySem.W.lookIn name od=some (mA name):=by
 obtain⟨o,es,ep,ho,hd,hk,_,hm⟩:=n;refine⟨o,ho,fun name=>?_⟩;have e:=hm name;unfold nsFind findBy at e;rw[←Array.find?_toList] at e;unfold PySem.W.lookIn;rw[hd];dsimp only;split
 ·rename_i y q;rw[q] at e;exact congrArg some e
 ·rename_i q;rw[q] at e;have a:es.toList.any (·.refKey)=false:=by
   rw[List.any_eq_false];intro y hy;obtain⟨z,t,hkey⟩:=hk y (Array.mem_toList_iff.mp hy);simp[DictEntry.refKey,hkey]
  have a':¬es.toList.any (·.refKey)=true:=by rw[a];exact Bool.false_ne_true
  rw[if_neg a'];exact congrArg some e
theorem Zdh.look{h:Heap}{x dx C:Addr}{mA:Str->Option Value}(I:Zdh h x dx C mA):∃od,PySem.W.InstAt h x (PySem.W.instObj C dx) C (some od)/\∀name,PySem.W.lookIn name od=some (mA name) :=
 let ⟨od,ho,hl⟩:=Zo9 I.ns
 ⟨od,⟨I.obj,rfl,rfl,ho⟩,hl⟩
section
variable{prog:Program}{w:World}{A:Around}{E:Value->Shared->Prop}{s:Shared}{K:PySem.W.Frag}{x dx C f:Addr}{mA:Str->Option Value}{name:Str}{v:Value}
theorem get_map{expr:Bool}{Q:Value->Shared->Prop}(X:K.In s.heap)(I:Zdh s.heap x dx C mA)(hg:PySem.W.plainGet K C name=true)(hh:PySem.W.hasDictIn K C=true)
  (ha:PySem.W.findIn K (.ref C) name=some none) (hv:mA name=some v) (hv':PySem.W.handedIn v=true) (h:Q v { s with toks:=s.toks+1 }) :
  wpAny (model prog w) A (getAttr (.ref x) name expr) Q E s:=by
 obtain⟨od,J,hl⟩:=I.look;exact PySem.W.get_value X J (PySem.W.plainGet_of hg).1 (PySem.W.findObj_own hh ha rfl (by rw[hl,hv])) hv' h
theorem Zpa{pl:Sem Bool}{Q:Value×List Value->Shared->Prop}(X:K.In s.heap)(I:Zdh s.heap x dx C mA)(hg:PySem.W.plainGet K C name=true)
  (hf:PySem.W.findIn K (.ref C) name=some (some (.ref f))) (ht:PySem.W.isFn K (.ref f)=true) (hv:mA name=none) (h:Q (.ref f,[.ref x]) s) :
  wpAny (model prog w) A (getMethod (.ref x) name pl) Q E s:=by
 obtain⟨od,J,hl⟩:=I.look;exact PySem.W.method_fn X J (PySem.W.plainGet_of hg).1 (PySem.W.plainGet_of hg).2 hf (beq_iff_eq.mp ht) (by show(PySem.W.lookIn name od).map (·.isSome)=some false;rw[hl,hv];rfl) h
theorem Zpb{ns:List Str}{Q:Unit->Shared->Prop}(X:K.In s.heap)(I:Zdh s.heap x dx C mA)
  (hs:PySem.W.findIn K (.ref C) "__setattr__"=some (some (.builtin "object.__setattr__"))) (hp:PySem.W.plainOver K C=true) (ht:PySem.W.takerIn K C name=some none) (hh:PySem.W.hasDictIn K C=true)
  (hw:PySem.Within mA ns) (hsz:ns.length<=sizeLine)
  (h:∀h',Zdh h' x dx C (fun y=>if y=name then some v else mA y)->Heap.SameBut dx s.heap h'->Q () { s with heap:=h',toks:=s.toks+2 }) :
  wpAny (model prog w) A (setAttr (.ref x) name v) Q E s:=by
 obtain⟨od,J,hl⟩:=I.look;refine PySem.W.set_plain X J hs (PySem.W.osa_open (s:={ s with toks:=s.toks+1 }) (r:=none) X J hp ht fun b=>?_);obtain⟨cd,hc,hd'⟩:=PySem.W.any_some hh;have hx:s.heap.get? x=some ⟨.ref C,some dx,.plain,#[]⟩:=I.obj;refine wpAny_bind (wpAny_pure (wpAny_bind (wpAny_bind (wpAny_loadPart hx (wpAny_bind (PySem.W.Looks.here (s:={ s with toks:=s.toks+1 }) (PySem.W.looks_clsIn X hc) ?_))))));rw[hd'];refine wpAny_pure (a:=some dx) (wpAny_bind (wpAny_pure (wpAny_bind ?_)));refine wpAny_nsSet1 (s:={ s with toks:=s.toks+1 }) I.ns fun h' hn2 hs2=>?_;obtain⟨oD,esD,epD,hoD,hdD,hcD⟩:=hn2.count (PySem.Within.cons name v hw);refine wpAny_bind (wpAny_lookBehind hoD (by rw[hdD];exact pastItsLine_dict (Nat.le_trans hcD (by rw[List.length_cons];omega))) ?_);exact wpAny_pure (h _ ⟨(hs2.2 _ (Ne.symm I.ne)).trans I.obj,hn2,I.ne⟩ hs2)
theorem Zpc{R:Result->Shared->Prop}{vs:List Value}{kw:List (Str×Value)}(X:K.In s.heap)(hm:PySem.W.makesIn K C=true)
  (hi:PySem.W.findIn K (.ref C) "__init__"=some (some (.ref f))) (hf:PySem.W.typeIn K (.ref f)=some (.type "function"))
  (h:codeAny (model prog w) (A.under (.builtin "type.__call__" ⟨.ref C::vs,kw⟩)) (.call (.ref f) ⟨.ref (s.heap.objs.size+1)::vs,kw⟩) (PySem.W.InitBack (s.heap.objs.size+1) R)
   { s with heap:=(s.heap.push PySem.W.emptyDict).push (PySem.W.instObj C s.heap.objs.size) }) :
  codeAny (model prog w) A (.call (.ref C) ⟨vs,kw⟩) R s:=by
 obtain⟨hh,g,d,t,os⟩:=s;exact PySem.W.make_core (PySem.W.makes_of X hm) (PySem.W.looks_findIn X hi) (fun self=>PySem.W.bind_fn X self hf) (.inl rfl) h
end
def Zw(f:Str)(v:V):List (Str×V)->List (Str×V)
 |[]=>[(f,v)]
 |(g,x)::r=>if g=f then(g,v)::r else(g,x)::Zw f v r
theorem Zkj(f g:Str)(v:V):∀fs:List (Str×V),(Zw f v fs).lookup g=if g=f then some v else fs.lookup g
 |[]=>by
  show List.lookup g [(f,v)]=_;by_cases h:g=f
  ·have hb:(g==f)=true:=beq_iff_eq.mpr h;simp only[List.lookup,hb,if_pos h]
  ·have hb:(g==f)=false:=beq_eq_false_iff_ne.mpr h;simp only[List.lookup,hb,if_neg h]
 |(k,x)::r=>by
  have ih:=Zkj f g v r;rw[show Zw f v ((k,x)::r)=(if k=f then(k,v)::r else(k,x)::Zw f v r) from rfl];by_cases hk:k=f
  ·rw[if_pos hk];by_cases h:g=k
   ·have hb:(g==k)=true:=beq_iff_eq.mpr h;simp only[List.lookup,hb,if_pos (h.trans hk)]
   ·have hb:(g==k)=false:=beq_eq_false_iff_ne.mpr h;simp only[List.lookup,hb,if_neg (fun e:g=f=>h (e.trans hk.symm))]
  ·rw[if_neg hk];by_cases h:g=k
   ·have hb:(g==k)=true:=beq_iff_eq.mpr h;simp only[List.lookup,hb,if_neg (fun e:g=f=>hk (h.symm.trans e))]
   ·have hb:(g==k)=false:=beq_eq_false_iff_ne.mpr h;simp only[List.lookup,hb];exact ih
theorem Zg6(f:Str)(v:V):∀fs:List (Str×V),f∈(Zw f v fs).map (·.1)/\∀g,g∈fs.map (·.1)->g∈(Zw f v fs).map (·.1)
 |[]=>⟨by simp[Zw],fun g h=>by simp at h⟩
 |(k,x)::r=>by
  obtain⟨i1,i2⟩:=Zg6 f v r;rw[show Zw f v ((k,x)::r)=(if k=f then(k,v)::r else(k,x)::Zw f v r) from rfl];by_cases hk:k=f
  ·rw[if_pos hk];subst hk;exact⟨by simp,fun g h=>by simpa using h⟩
  ·rw[if_neg hk];refine⟨?_,fun g h=>?_⟩
   ·rw[List.map_cons];exact List.mem_cons_of_mem _ i1
   ·rw[List.map_cons] at h ⊢;rcases List.mem_cons.mp h with e|e
    ·exact List.mem_cons.mpr (.inl e)
    ·exact List.mem_cons_of_mem _ (i2 g e)
theorem ZdV(f:Str)(v:V):∀fs:List (Str×V),(Zw f v fs).length<=fs.length+1
 |[]=>by simp[Zw]
 |(k,x)::r=>by
  have ih:=ZdV f v r;rw[show Zw f v ((k,x)::r)=(if k=f then(k,v)::r else(k,x)::Zw f v r) from rfl];by_cases hk:k=f
  ·rw[if_pos hk,List.length_cons,List.length_cons];omega
  ·rw[if_neg hk,List.length_cons,List.length_cons];omega
theorem ZaO.some_of{v:V}{o:Option Value}(r:ZaO (some v) o):∃u,o=some u/\RelV v u:=by
 cases o with
 |none=>exact(show False from r).elim
 |some u=>exact⟨u,rfl,r⟩
theorem ZaO.none_of{o:Option Value}(r:ZaO none o):o=none:=by
 cases o with
 |none=>rfl
 |some u=>exact(show False from r).elim
theorem Zpd{v:V}{u:Value}(r:RelV v u):PySem.W.handedIn u=true:=by
 cases v with
 |non=>cases(show u=Value.none from r);rfl
 |bl b=>cases(show u=Value.bool b from r);rfl
 |int i=>obtain⟨t,e⟩:=(show∃t,u=Value.int i t from r);cases e;rfl
 |str x=>obtain⟨t,e⟩:=(show∃t,u=Value.str x t from r);cases e;rfl
 |byt b=>obtain⟨t,e⟩:=(show∃t,u=Value.bytes b t from r);cases e;rfl
 |flt b=>obtain⟨t,e⟩:=(show∃t,u=Value.float b t from r);cases e;rfl
 |ref a=>cases(show u=Value.ref a from r);rfl
 |ty n=>cases(show u=Value.type n from r);rfl
section
variable{P:Program}{w:World}{H H':Hp}{h h':Heap}{a C dx:Addr}{fs fs':List (Str×V)}
theorem Zg7(hok:HOk P w H h)(e:H a=some (.ins C dx fs)):∃mA,Zdh h a dx C mA/\(∀f,ZaO (fs.lookup f) (mA f))/\PySem.Within mA (fs.map (·.1))/\fs.length<=1000/\H dx=some (.own a):=by
 obtain⟨d,z,ne,ob,mA,n,r,q⟩:=(show Zac P w H h a (.ins C dx fs) from hok a _ e)
 exact⟨mA,⟨ob,n,ne⟩,r,q,z,d⟩
end
structure Cls(K:PySem.W.Frag)(C:Addr):Prop where
 pg:PySem.W.plainGet K C Str.empty=true
 hd:PySem.W.hasDictIn K C=true
 po:PySem.W.plainOver K C=true
 sa:PySem.W.findIn K (.ref C) "__setattr__"=some (some (.builtin "object.__setattr__"))
theorem Cls.get{K:PySem.W.Frag}{C:Addr}(c:Cls K C)(f:Str):PySem.W.plainGet K C f=true:=c.pg
def ZcM(K:PySem.W.Frag)(C:Addr)(f:Str):Prop:=PySem.W.findIn K (.ref C) f=some none
theorem ZcM.Zpe{K:PySem.W.Frag}{C:Addr}{f:Str}(n:ZcM K C f):PySem.W.takerIn K C f=some none:=by
 unfold PySem.W.takerIn;rw[show PySem.W.findIn K (.ref C) f=some none from n];rfl
structure ZeG(K:PySem.W.Frag)(C:Addr)(m:Str)(f:Addr):Prop where
 at_:PySem.W.findIn K (.ref C) m=some (some (.ref f))
 fn:PySem.W.isFn K (.ref f)=true
 kp:PySem.W.keepIn K (.ref f)=true
section
variable{X:Cx}{pins:List (Addr×Obj)}{σ:St}{H:Hp}{s:Shared}{a C dx:Addr}{fs:List (Str×V)}{f:Str}{v:V}{A:Around}{E:Value->Shared->Prop}
theorem Zkk{b:Bool}{Q:Value->Shared->Prop}(I:Inv X pins σ H s)(e:H a=some (.ins C dx fs))(c:Cls X.K C)(n:ZcM X.K C f)(l:fs.lookup f=some v)
  (h:∀u s',Inv X pins σ H s'->RelV v u->Q u s'):wpAny (model X.prog X.w) A (getAttr (.ref a) f b) Q E s:=by
 obtain⟨mA,O,r,_,_,_⟩:=Zg7 I.hok e;obtain⟨u,hu,ru⟩:=ZaO.some_of (v:=v) (o:=mA f) (by rw[←l];exact r f);exact get_map I.kIn O (c.get f) c.hd n hu (Zpd ru) (h u _ (I.tok _) ru)
theorem Zkl{m:Str}{g:Addr}{pl:Sem Bool}{Q:Value×List Value->Shared->Prop}(I:Inv X pins σ H s)(e:H a=some (.ins C dx fs))(c:Cls X.K C)(k:ZeG X.K C m g)(l:fs.lookup m=none)
  (h:Q (.ref g,[.ref a]) s):wpAny (model X.prog X.w) A (getMethod (.ref a) m pl) Q E s:=by
 obtain⟨mA,O,r,_,_,_⟩:=Zg7 I.hok e;have hn:mA m=none:=ZaO.none_of (by rw[←l];exact r m);exact Zpa I.kIn O (c.get m) k.at_ k.fn hn h
theorem Zkm{y:V}{u:Value}{Q:Unit->Shared->Prop}(I:Inv X pins σ H s)(e:H a=some (.ins C dx fs))(c:Cls X.K C)(n:ZcM X.K C f)(hl:fs.length < 1000)(ry:RelV y u)
  (h:∀s',Inv X pins σ (upd H a (.ins C dx (Zw f y fs))) s'->Q () s'):wpAny (model X.prog X.w) A (setAttr (.ref a) f u) Q E s:=by
 obtain⟨mA,O,r,wi,_,ho⟩:=Zg7 I.hok e;have hz:(fs.map (·.1)).length<=sizeLine:=by rw[List.length_map,sizeLine_eq];omega
 refine Zpb I.kIn O c.sa c.po n.Zpe c.hd wi hz fun h' O' sb=>h _ ?_;have hd:∃o,h'.get? dx=some o:=let ⟨o,_,_,e',_⟩:=O'.ns;⟨o,e'⟩;refine I.write (x:=a) (e:=dx) (by rw[e];exact True.intro) (.inr ho) (fun b q hb z=>(sb.2 b hb).trans z) hd ?_;refine⟨by rw[Zf O.ne];exact ho,?_,O.ne,O'.obj,_,O'.ns,fun g=>?_,fun g hg=>?_⟩
 ·have:=ZdV f y fs;omega
 ·show ZaO ((Zw f y fs).lookup g) (if g=f then some u else mA g);rw[Zkj];by_cases q:g=f
  ·rw[if_pos q,if_pos q];exact ry
  ·rw[if_neg q,if_neg q];exact r g
 ·by_cases q:g=f
  ·rw[q];exact(Zg6 f y fs).1
  ·refine(Zg6 f y fs).2 g (wi g fun z=>hg ?_);show(if g=f then some u else mA g)=none;rw[if_neg q];exact z
theorem Inv.made(I:Inv X pins σ H s):Inv X pins σ (upd (upd H s.heap.objs.size (.own (s.heap.objs.size+1))) (s.heap.objs.size+1) (.ins C s.heap.objs.size []))
  { s with heap:=(s.heap.push PySem.W.emptyDict).push (PySem.W.instObj C s.heap.objs.size) }:=by
 have e1:(s.heap.push PySem.W.emptyDict).get? s.heap.objs.size=some PySem.W.emptyDict:=Heap.get?_push_size s.heap rfl;have e2:((s.heap.push PySem.W.emptyDict).push (PySem.W.instObj C s.heap.objs.size)).get? (s.heap.objs.size+1)=some (PySem.W.instObj C s.heap.objs.size):=by
  have:=Heap.get?_push_size (s.heap.push PySem.W.emptyDict) (o:=PySem.W.instObj C s.heap.objs.size) rfl;rwa [Heap.size_push] at this
 have e3:(s.heap.push PySem.W.emptyDict).Ns s.heap.objs.size (fun _=>none):=⟨PySem.W.emptyDict,#[],_,e1,rfl,(fun e he=>absurd he (by simp)),fun _=>rfl⟩
 have I1:=I.laid (a:=s.heap.objs.size) (o:=.own (s.heap.objs.size+1)) (h':=s.heap.push PySem.W.emptyDict) (t':=s.toks) (fun b u q=>Heap.get?_push_of_some _ q) (Nat.le_refl _) ⟨_,e1⟩;refine I1.laid (a:=s.heap.objs.size+1) (o:=.ins C s.heap.objs.size []) (t':=s.toks) (fun b u q=>Heap.get?_push_of_some _ q) (Nat.le_of_eq (Heap.size_push _ _)) ?_;have ne:s.heap.objs.size≠s.heap.objs.size+1:=Nat.ne_of_lt (Nat.lt_succ_self _);refine⟨by rw[Zf ne,Zd],Nat.zero_le _,ne,e2,fun _=>none,(Heap.Ns1.of_empty e3).at fun o q=>Heap.get?_push_of_some _ q,fun _=>True.intro,fun y hy=>absurd rfl hy⟩
theorem Zpf{prog:Program}{w:World}{env:Env}{e:Expr}{f:Str}{pos:Pos}{s:Shared}{Q:Value->Shared->Prop}(hb:attributeBase e f env (eval e env)=eval e env)
  (h:wpAny (model prog w) A (eval e env) (fun o s₁=>wpAny (model prog w) A (getAttr o f true) Q E s₁) E s):wpAny (model prog w) A (eval (.Attribute e f pos) env) Q E s :=
 Attribute_any_ h (by rw[arm_eval_Attribute,hb])
end
inductive Zpg(K:PySem.W.Frag)(f:Str)(x:V)(H1:Hp)(Q:VK):Prop
 |mk (a C dx fs v) (_:x=.ref a) (_:H1 a=some (.ins C dx fs)) (_:Cls K C) (_:ZcM K C f) (_:fs.lookup f=some v) (_:Q v H1)
def Zbo(K:PySem.W.Frag)(ta:TE)(f:Str):TE:=fun σ H Q=>ta σ H fun x H1=>Zpg K f x H1 Q
inductive Zph(K:PySem.W.Frag)(f:Str)(D:Ends)(σ:St)(y x:V)(H2:Hp):Prop
 |mk (a C dx fs) (_:x=.ref a) (_:H2 a=some (.ins C dx fs)) (_:Cls K C) (_:ZcM K C f) (_:fs.length < 1000) (_:D.nx σ (upd H2 a (.ins C dx (Zw f y fs))))
def Zpi(K:PySem.W.Frag)(ta tv:TE)(f:Str):TS:=fun D σ H=>tv σ H fun y H1=>ta σ H1 fun x H2=>Zph K f D σ y x H2
def Zkn(X:Cx)(op:Operator)(rd:V->V->Hp->VK->Prop):Prop :=
 ∀(pins:List (Addr×Obj))(s:Shared)(σ:St)(H:Hp)(x y:V)(u v:Value)(Q:VK),Inv X pins σ H s->RelV x u->RelV y v->rd x y H Q->wpAny (model X.prog X.w) X.A (inplaceOp op u v) (EP X pins σ Q) X.xe s
def Zpj(K:PySem.W.Frag)(ta tv:TE)(rd:V->V->Hp->VK->Prop)(f:Str):TS:=fun D σ H=>ta σ H fun x H1=>∃a C dx fs v,x=.ref a/\H1 a=some (.ins C dx fs)/\Cls K C/\ZcM K C f/\fs.lookup f=some v /\
 tv σ H1 fun y H2=>rd v y H2 fun z H3=>∃dx' fs',H3 a=some (.ins C dx' fs')/\fs'.length < 1000/\D.nx σ (upd H3 a (.ins C dx' (Zw f z fs')))
section
variable{X:Cx}{o e value:Expr}{f:Str}{pos pos' tpos:Pos}{ta tv:TE}
theorem Zl(he:PE X e ta)(hb:attributeBase e f X.env (eval e X.env)=eval e X.env):PE X (.Attribute e f pos) (Zbo X.K ta f):=by
 intro pins s σ H Q I h;refine Zpf hb (thn (he pins s σ H _ I h) fun u s1 ⟨x,H1,I1,rx,a,C,dx,fs,v,ex,ea,c,n,l,q⟩=>?_);subst ex;obtain rfl:u=Value.ref a:=rx;exact Zkk I1 ea c n l fun u' s2 I2 ru=>⟨v,H1,I2,ru,q⟩
theorem Z4(ha:PE X o ta)(hv:PE X value tv)(hs:swapsWith value (some (.Attribute o f pos')) pos.line X.env=pure false):PS X (.Assign [.Attribute o f pos'] value pos) (Zpi X.K ta tv f):=by
 intro pins s σ H D I h;refine plainObj_wpAny_Assign_Attribute (thn (hv pins s σ H _ I h) fun u s1 ⟨y,H1,I1,ry,q⟩=>thn (ha pins s1 σ H1 _ I1 q) fun ov s2 ⟨x,H2,I2,rx,a,C,dx,fs,ex,ea,c,n,l,q2⟩=>?_) hs;subst ex;obtain rfl:ov=Value.ref a:=rx;exact Zkm I2 ea c n l ry fun s3 I3=>⟨σ,_,I3,q2⟩
theorem Zko{op:Operator}{rd:V->V->Hp->VK->Prop}(ha:PE X o ta)(hv:PE X value tv)(hop:Zkn X op rd):PS X (.AugAssign (.Attribute o f tpos) op value pos) (Zpj X.K ta tv rd f):=by
 intro pins s σ H D I h;refine wpAny_AugAssign_AttributeAny (thn (ha pins s σ H _ I h) fun ov s1 ⟨x,H1,I1,rx,a,C,dx,fs,v,ex,ea,c,n,l,q⟩=>?_);subst ex;obtain rfl:ov=Value.ref a:=rx;refine Zkk I1 ea c n l fun u s2 I2 ru=>thn (hv pins s2 σ H1 _ I2 q) fun w3 s3 ⟨y,H2,I3,ry,q3⟩=>thn (hop pins s3 σ H2 v y u w3 _ I3 ru ry q3) fun w4 s4 ⟨z,H3,I4,rz,dx',fs',ea',l',q4⟩=>?_;exact Zkm I4 ea' c n l' rz fun s5 I5=>⟨σ,_,I5,q4⟩
def Zpk:V->V->Hp->VK->Prop:=fun x y H Q=>∃i j,x=.int i/\y=.int j/\Q (.int (i+j)) H
theorem Zkp:Zkn X .Add Zpk:=by
 rintro pins s σ H x y u v Q I rx ry ⟨i,j,rfl,rfl,q⟩;obtain⟨t,rfl⟩:=(show∃t,u=Value.int i t from rx)
 obtain⟨t',rfl⟩:=(show∃t',v=Value.int j t' from ry)
 exact PyProof.Rows.iadd_int ⟨.int (i+j),H,I.tok _,⟨_,rfl⟩,q⟩
end
section
variable{X:Cx}{pins:List (Addr×Obj)}{σ:St}{H:Hp}{s:Shared}{A:Around}{E:Value->Shared->Prop}{Q:Value->Shared->Prop}{c:Value}{b:Bool}
end
end L2
namespace L2
open PySem PySem.Spec PyProof.Rows
structure ZZ(k:Nat)(A:Around):Prop where
 hd:A.handled=none
 dp:A.depth+3 * k+5 < recursionLimit
 un:A.units+16 * k+200 < cLine
theorem ZZ.mono{j k:Nat}{A:Around}(r:ZZ k A)(h:j<=k):ZZ j A:=⟨r.hd,by have:=r.dp;omega,by have:=r.un;omega⟩
theorem ZZ.deeper{k:Nat}{A:Around}(r:ZZ (k+1) A)(env:Env):ZZ k (A.deeper env) :=
 ⟨r.hd,by have:=r.dp;show A.depth+1+3 * k+5 < _;omega,by have:=r.un;show A.units+3+16 * k+200 < _;omega⟩
theorem Zpl{A:Around}{C:Addr}{us:List Value}{kw:List (Str×Value)}:(A.under (.builtin "type.__call__" ⟨.ref C::us,kw⟩)).depth=A.depth+1:=by
 first|rfl|simp[Around.under,Code.weight,Code.isCreation,Code.isGuard,Code.isCaller,Code.frames,Code.isFrame,guardIds]
theorem Zpm{A:Around}{C:Addr}{us:List Value}{kw:List (Str×Value)}:(A.under (.builtin "type.__call__" ⟨.ref C::us,kw⟩)).units=A.units+1:=by
 first|rfl|simp[Around.under,Code.cUnits,Code.frames,Code.isFrame]
theorem ZZ.make{k:Nat}{A:Around}(r:ZZ (k+1) A)(C:Addr)(us:List Value)(kw:List (Str×Value)):ZZ k (A.under (.builtin "type.__call__" ⟨.ref C::us,kw⟩)) :=
 ⟨r.hd,by have:=r.dp;rw[Zpl];omega,by have:=r.un;rw[Zpm];omega⟩
theorem ZZ.depth{k:Nat}{A:Around}(r:ZZ k A):A.depth < recursionLimit:=by have:=r.dp;omega
theorem ZZ.units{k:Nat}{A:Around}(r:ZZ k A):A.units+64 < cLine:=by have:=r.un;omega
def Zaf:TA:=fun _ H Q=>Q [] H
def ZU(ta:TE)(tr:TA):TA:=fun σ H Q=>ta σ H fun x H1=>tr σ H1 fun xs H2=>Q (x::xs) H2
section
variable{X:Cx}{e:Expr}{es:List Expr}{te:TE}{t:TA}{pos:Pos}
theorem Zb:PA X [] Zaf:=fun _ _ _ _ H Q I h=>Calls.spliced_nil ⟨[],H,I,.nil,h⟩
theorem Za(ha:PE X e te)(hr:PA X es t)(hs:starEach (e::es) X.env=(false,eval e X.env)::starEach es X.env:=by rfl):PA X (e::es) (ZU te t):=by
 intro pos pins s σ H Q I h;rw[hs];show wpAny _ _ (spliced ((false,eval e X.env)::backTo pos (starEach es X.env))) _ _ s;refine Calls.spliced_cons (thn (ha pins s σ H _ I h) fun u s1 ⟨x,H1,I1,r1,q1⟩=>?_);exact thn (hr pos pins s1 σ H1 _ I1 q1) fun us s2 ⟨xs,H2,I2,r2,q2⟩=>⟨x::xs,H2,I2,.cons r1 r2,q2⟩
def Zkq(t:TA):TE:=fun σ H Q=>t σ H fun xs H1=>xs.length<=sizeLine/\∀p,H1 p=none->Q (.ref p) (upd H1 p (.tup xs))
def Zb6(t:TA):TE:=fun σ H Q=>t σ H fun xs H1=>xs.length<=sizeLine/\∀p,H1 p=none->Q (.ref p) (upd H1 p (.lst xs))
theorem Zdi{x1}(h:PA X es t):PE X (.Tuple es x1 pos) (Zkq t):=by
 intro pins s σ H Q I hq;refine wpAny_Tuple_spliced (thn (h pos pins s σ H _ I hq) fun us s1 ⟨xs,H1,I1,r,z,q⟩=>⟨by rw[←r.length];exact z,?_⟩);have hf:H1 s1.heap.objs.size=none:=I1.hok.fresh (Nat.le_refl _);refine⟨.ref s1.heap.objs.size,upd H1 s1.heap.objs.size (.tup xs),I1.laid (t':=s1.toks) (fun b u e=>Heap.get?_push_of_some _ e) (Nat.le_refl _) ?_,rfl,q _ hf⟩;exact⟨z,us,r,⟨_,Heap.get?_push_size _ rfl,rfl,_,rfl⟩⟩
theorem ZQ(h:PA X es t):PE X (.List es pos) (Zb6 t):=by
 intro pins s σ H Q I hq;refine wpAny_List_spliced (thn (h pos pins s σ H _ I hq) fun us s1 ⟨xs,H1,I1,r,z,q⟩=>⟨by rw[←r.length];exact z,?_⟩);have hf:H1 s1.heap.objs.size=none:=I1.hok.fresh (Nat.le_refl _);refine⟨.ref s1.heap.objs.size,upd H1 s1.heap.objs.size (.lst xs),I1.laid (t':=s1.toks) (fun b u e=>Heap.get?_push_of_some _ e) (Nat.le_refl _) ?_,rfl,q _ hf⟩;exact⟨z,us,0,r,Heap.get?_push_size _ rfl⟩
end
abbrev Sp:=List V->Hp->VK->XK->Prop
abbrev CXT:=List Env->Hp->Shared->XK->Value->Shared->Prop
structure Zdj(P:Program)(w:World)(K:PySem.W.Frag)(mg:Str->Option Value)(base:Heap)(A:Around)(outer:List Env)(s:Shared)(H:Hp):Prop where
 frames:A.frames=some outer
 mod:Mod K mg base
 bs:∀b o,base.get? b=some o->s.heap.get? b=some o/\H b=none
 bsz:base.objs.size<=s.heap.objs.size
 Zbl:s.heap.FunFrames base outer
 frf:∀b∈frs outer,H b=none
 hok:HOk P w H s.heap
 bare:AllBare s.gens
def CE(outer:List Env)(P:Program)(w:World)(H:Hp)(s:Shared)(Q:VK)(u:Value)(s':Shared):Prop :=
 ∃v H',s'.os=s.os/\AllBare s'.gens/\Un (frs outer) [] H H' s.heap s'.heap/\HOk P w H' s'.heap/\RelV v u/\Q v H'
def CR(CX:CXT)(outer:List Env)(P:Program)(w:World)(H:Hp)(s:Shared)(Q:VK)(E:XK)(r:Result)(s':Shared):Prop :=
 match r with
 |.ok (.ret u)=>CE outer P w H s Q u s'
 |.ok _=>False
 |.error e=>CX outer H s E e s'
structure ZaH(P:Program)(w:World)(K:PySem.W.Frag)(mg:Str->Option Value)(base:Heap)(CX:CXT)(k:Nat)(f:Addr)(fd:FuncData)(ps:List Str)(sp:Sp):Prop where
 len:∀vs H Q E,sp vs H Q E->vs.length=ps.length
 run:∀(A:Around)(outer:List Env)(s:Shared)(H:Hp)(args:Args)(us:List Value)(vs:List V)(Q:VK)(E:XK),ZZ k A->Zdj P w K mg base A outer s H->BindsTo s fd args (ps.zip us)->Zn vs us->sp vs H Q E ->
  codeAny (model P w) A (.call (.ref f) args) (CR CX outer P w H s Q E) s
theorem ZaH.mono{P:Program}{w:World}{K:PySem.W.Frag}{mg:Str->Option Value}{base:Heap}{CX:CXT}{j k:Nat}{f:Addr}{fd:FuncData}{ps:List Str}{sp:Sp}(F:ZaH P w K mg base CX j f fd ps sp)(h:j<=k) :
  ZaH P w K mg base CX k f fd ps sp:=⟨F.len,fun A outer s H args us vs Q E hr=>F.run A outer s H args us vs Q E (hr.mono h)⟩
theorem Zdj.make{P:Program}{w:World}{K:PySem.W.Frag}{mg:Str->Option Value}{base:Heap}{A:Around}{outer:List Env}{s:Shared}{H:Hp}(e:Zdj P w K mg base A outer s H)(C:Addr)(us:List Value)(kw:List (Str×Value)) :
  Zdj P w K mg base (A.under (.builtin "type.__call__" ⟨.ref C::us,kw⟩)) outer s H:=⟨by first|exact e.frames|(simpa[Around.under,Code.envs,Code.isFrame,pushEnvs] using e.frames),e.mod,e.bs,e.bsz,e.Zbl,e.frf,e.hok,e.bare⟩
section
variable{X:Cx}{pins:List (Addr×Obj)}{σ:St}{H:Hp}{s s':Shared}
theorem Inv.Zkr(I:Inv X pins σ H s):Zdj X.prog X.w X.K X.mg X.base X.A X.stack s H :=
 ⟨I.ok.frames,I.ok.mod,I.bs,Nat.le_trans I.ok.bsz I.sz,I.stack,I.ZgS,I.hok,I.bare⟩
theorem Inv.after{Q:VK}{u:Value}(I:Inv X pins σ H s)(h:CE X.stack X.prog X.w H s Q u s'):EP X pins σ Q u s':=by
 obtain⟨v,H',os,bare,un,hok,r,q⟩:=h;obtain⟨hh,g,d,t,os'⟩:=s';obtain rfl:os'=s.os:=os;exact⟨v,H',I.call (h':=hh) (g':=g) (d':=d) (t':=t) (ch:=[]) un hok bare (fun b z=>absurd z (by simp)),r,q⟩
end
def Zb7(sp:Sp)(dvs:List V)(E:XK)(t:TA):TE:=fun σ H Q=>t σ H fun vs H1=>sp (vs++dvs) H1 Q E
inductive Zpn(C:Addr)(m:Str)(sp:Sp)(dvs:List V)(E:XK)(t:TA)(σ:St)(x:V)(H1:Hp)(Q:VK):Prop
 |mk (a dx fs) (_:x=.ref a) (_:H1 a=some (.ins C dx fs)) (_:fs.lookup m=none) (_:t σ H1 fun vs H2=>sp (x::(vs++dvs)) H2 Q E)
def ZeH(C:Addr)(m:Str)(sp:Sp)(dvs:List V)(E:XK)(ta:TE)(t:TA):TE:=fun σ H Q=>ta σ H fun x H1=>Zpn C m sp dvs E t σ x H1 Q
def Zfv(C:Addr)(sp:Sp)(dvs:List V)(E:XK)(t:TA):TE:=fun σ H Q=>t σ H fun vs H1=>∀x dx,H1 x=none->H1 dx=none->dx≠x ->
 sp (.ref x::(vs++dvs)) (upd (upd H1 dx (.own x)) x (.ins C dx [])) (fun v H2=>v=.non/\Q (.ref x) H2) E
def Binds(K:PySem.W.Frag)(fd:FuncData)(ps:List Str)(ds:List Value):Prop :=
 ∀(s:Shared)(us:List Value),K.In s.heap->(us++ds).length=ps.length->BindsTo s fd ⟨us,[]⟩ (ps.zip (us++ds))
theorem Binds.all{K:PySem.W.Frag}{fd:FuncData}{ps:List Str}(h:∀us:List Value,us.length=ps.length->bindArgs fd ⟨us,[]⟩=pure (ps.zip us)):Binds K fd ps []:=fun s us _ hl=>by
 rw[List.append_nil] at hl ⊢;exact .of_eq (h us hl)
def Passes(CX:CXT)(X:Cx)(E:XK):Prop:=∀(pins:List (Addr×Obj))(σ:St)(H:Hp)(s:Shared)(e:Value)(s':Shared),Inv X pins σ H s->CX X.stack H s E e s'->X.xe e s'
section
variable{X:Cx}{CX:CXT}{k:Nat}{f C:Addr}{fd:FuncData}{ps:List Str}{sp:Sp}{dvs:List V}{ds:List Value}{E:XK}{x m:Str}{p pos apos:Pos}{e o:Expr}{es:List Expr}{ta:TE}{t:TA}
theorem Zg8{pins:List (Addr×Obj)}{σ:St}{H:Hp}{s:Shared}{Q:VK}{us:List Value}{vs:List V}(F:ZaH X.prog X.w X.K X.mg X.base CX k f fd ps sp)(hr:ZZ k X.A)(hb:Binds X.K fd ps ds)(hd:Zn dvs ds)(hx:Passes CX X E)
  (I:Inv X pins σ H s) (r:Zn vs us) (h:sp (vs++dvs) H Q E):wpAny (model X.prog X.w) X.A (call (.ref f) us) (EP X pins σ Q) X.xe s:=by
 have r2:Zn (vs++dvs) (us++ds):=r.append hd;have hl:(us++ds).length=ps.length:=by rw[←r2.length];exact F.len _ _ _ _ h
 refine wpAny_call (codeAny_mono (F.run X.A X.stack s H ⟨us,[]⟩ (us++ds) (vs++dvs) Q E hr I.Zkr (hb s us I.kIn hl) r2 h) fun r s' hq=>?_);cases r with
 |error e=>exact hx pins σ H s e s' I hq
 |ok fl =>
  cases fl with
  |ret u=>exact I.after hq
  |next=>exact False.elim hq
  |brk=>exact False.elim hq
  |cont=>exact False.elim hq
theorem Zpo(F:ZaH X.prog X.w X.K X.mg X.base CX k f fd ps sp)(hr:ZZ k X.A)(hg:Gl X x)(hm:X.mg x=some (.ref f))(hk:PySem.W.keepIn X.K (.ref f)=true)(hb:Binds X.K fd ps ds)(hd:Zn dvs ds)(hx:Passes CX X E)
  (ha:PA X (e::es) t) (hdb:(x==("__debug__":Str))=false:=by decide) (he:starEach (e::es) X.env=(false,eval e X.env)::starEach es X.env:=by rfl) (hpl:(backTo pos (starEach es X.env)).any (·.1)=false:=by rfl) :
  PE X (.Call (.Name x p) (e::es) [] pos) (Zb7 sp dvs E t):=by
 intro pins s σ H Q I h;refine wpAny_Call_Name_kw (ZdO I hg hm ?_ hdb);refine PySem.W.callWith_K (h₀:=X.base) I.ok.mod.kin hk (thn (ha pos pins s σ H _ I h) fun us s1 ⟨vs,H1,I1,r,q⟩=>⟨I1.kIn,?_⟩) he hpl;exact Zg8 F hr hb hd hx I1 r q
theorem Zpp{pl:Sem Bool}(he:PE X o ta)(c:Cls X.K C)(hm:ZeG X.K C m f)(F:ZaH X.prog X.w X.K X.mg X.base CX k f fd ps sp)(hr:ZZ k X.A)(hb:Binds X.K fd ps ds)(hd:Zn dvs ds)(hx:Passes CX X E)(ha:PA X (e::es) t)
  (hst:starEach (e::es) X.env=(false,eval e X.env)::starEach es X.env:=by rfl) (hpl:(backTo pos (starEach es X.env)).any (·.1)=false:=by rfl)
  (ht:eval (.Call (.Attribute o m apos) (e::es) [] pos) X.env=(do
   let ov ←eval o X.env
   standAt apos.atName
   let (f,first) ←holding [ov] (getMethod ov m pl)
   callWith pos f first (backTo pos (starEach (e::es) X.env)) (backToKw pos (keywordEach [] X.env))):=by rfl) :
  PE X (.Call (.Attribute o m apos) (e::es) [] pos) (ZeH C m sp dvs E ta t):=by
 intro pins s σ H Q I h;refine PySem.W.methodCall_KW (pl:=pl) (thn (he pins s σ H _ I h) fun u s1 ⟨x,H1,I1,rx,a,dx,fs,ex,ea,l,q⟩=>?_) ht;subst ex;obtain rfl:u=Value.ref a:=rx;refine Zkl I1 ea c hm l ?_;refine PySem.W.callWith_K (first:=[.ref a]) (h₀:=X.base) I.ok.mod.kin hm.kp (thn (ha pos pins s1 σ H1 _ I1 q) fun us s2 ⟨vs,H2,I2,r,q2⟩=>⟨I2.kIn,?_⟩) hst hpl;exact Zg8 (us:=.ref a::us) (vs:=.ref a::vs) F hr hb hd hx I2 (.cons rfl r) q2
theorem Zpq{pl:Sem Bool}(he:PE X o ta)(c:Cls X.K C)(hm:ZeG X.K C m f)(F:ZaH X.prog X.w X.K X.mg X.base CX k f fd ps sp)(hr:ZZ k X.A)(hb:Binds X.K fd ps ds)(hd:Zn dvs ds)(hx:Passes CX X E)
  (ht:eval (.Call (.Attribute o m apos) [] [] pos) X.env=(do
   let ov ←eval o X.env
   standAt apos.atName
   let (f,first) ←holding [ov] (getMethod ov m pl)
   callWith pos f first (backTo pos (starEach [] X.env)) (backToKw pos (keywordEach [] X.env))):=by rfl) :
  PE X (.Call (.Attribute o m apos) [] [] pos) (ZeH C m sp dvs E ta Zaf):=by
 intro pins s σ H Q I h;refine PySem.W.methodCall_KW (pl:=pl) (thn (he pins s σ H _ I h) fun u s1 ⟨x,H1,I1,rx,a,dx,fs,ex,ea,l,q⟩=>?_) ht;subst ex;obtain rfl:u=Value.ref a:=rx;refine Zkl I1 ea c hm l ?_;exact PySem.W.callWith_K0 (first:=[.ref a]) I1.kIn hm.kp (Zg8 (us:=[.ref a]) (vs:=[.ref a]) F hr hb hd hx I1 (.cons rfl .nil) q)
structure Mk(K:PySem.W.Frag)(C f:Addr):Prop where
 makes:PySem.W.makesIn K C=true
 init:PySem.W.findIn K (.ref C) "__init__"=some (some (.ref f))
 fn:PySem.W.isFn K (.ref f)=true
 kp:PySem.W.keepIn K (.ref C)=true
theorem Zks{pins:List (Addr×Obj)}{σ:St}{H:Hp}{s:Shared}{Q:VK}{us:List Value}{vs:List V}(M:Mk X.K C f)(F:ZaH X.prog X.w X.K X.mg X.base CX k f fd ps sp)(hr:ZZ (k+1) X.A)(hb:Binds X.K fd ps ds)(hd:Zn dvs ds)
  (hx:Passes CX X E) (I:Inv X pins σ H s) (r:Zn vs us)
  (h:∀x dx,H x=none->H dx=none->dx≠x->sp (.ref x::(vs++dvs)) (upd (upd H dx (.own x)) x (.ins C dx [])) (fun v H2=>v=.non/\Q (.ref x) H2) E) :
  wpAny (model X.prog X.w) X.A (call (.ref C) us) (EP X pins σ Q) X.xe s:=by
 have hq:=h (s.heap.objs.size+1) s.heap.objs.size (I.hok.fresh (Nat.le_succ _)) (I.hok.fresh (Nat.le_refl _)) (Nat.ne_of_lt (Nat.lt_succ_self _));have I2:=Inv.made (C:=C) I;have r2:Zn (V.ref (s.heap.objs.size+1)::(vs++dvs)) (Value.ref (s.heap.objs.size+1)::(us++ds)):=.cons rfl (r.append hd);have hl:(Value.ref (s.heap.objs.size+1)::us++ds).length=ps.length:=by
  have e:=r2.length;rw[F.len _ _ _ _ hq] at e;exact e.symm
 refine wpAny_call (Zpc (f:=f) I.kIn M.makes M.init (beq_iff_eq.mp M.fn) (codeAny_mono (F.run _ X.stack _ _ ⟨Value.ref (s.heap.objs.size+1)::us,[]⟩ (Value.ref (s.heap.objs.size+1)::(us++ds)) _ _ E (hr.make C us [])
  (I2.Zkr.make C us []) (hb _ (Value.ref (s.heap.objs.size+1)::us) I2.kIn hl) r2 hq) fun r s' hq'=>?_))
 cases r with
 |error e=>exact hx pins σ _ _ e s' I2 hq'
 |ok fl =>
  cases fl with
  |ret u =>
   obtain⟨v,H',I3,rv,ev,q3⟩:=I2.after hq';subst ev;exact⟨rv,⟨V.ref (s.heap.objs.size+1),H',I3,rfl,q3⟩⟩
  |next=>exact False.elim hq'
  |brk=>exact False.elim hq'
  |cont=>exact False.elim hq'
theorem Zpr(M:Mk X.K C f)(F:ZaH X.prog X.w X.K X.mg X.base CX k f fd ps sp)(hr:ZZ (k+1) X.A)(hg:Gl X x)(hm:X.mg x=some (.ref C))(hb:Binds X.K fd ps ds)(hd:Zn dvs ds)(hx:Passes CX X E)
  (ha:PA X (e::es) t) (hdb:(x==("__debug__":Str))=false:=by decide) (he:starEach (e::es) X.env=(false,eval e X.env)::starEach es X.env:=by rfl) (hpl:(backTo pos (starEach es X.env)).any (·.1)=false:=by rfl) :
  PE X (.Call (.Name x p) (e::es) [] pos) (Zfv C sp dvs E t):=by
 intro pins s σ H Q I h;refine wpAny_Call_Name_kw (ZdO I hg hm ?_ hdb);refine PySem.W.callWith_K (h₀:=X.base) I.ok.mod.kin M.kp (thn (ha pos pins s σ H _ I h) fun us s1 ⟨vs,H1,I1,r,q⟩=>⟨I1.kIn,?_⟩) he hpl;exact Zks M F hr hb hd hx I1 r q
theorem Zps(M:Mk X.K C f)(F:ZaH X.prog X.w X.K X.mg X.base CX k f fd ps sp)(hr:ZZ (k+1) X.A)(hg:Gl X x)(hm:X.mg x=some (.ref C))(hb:Binds X.K fd ps ds)(hd:Zn dvs ds)(hx:Passes CX X E)
  (hdb:(x==("__debug__":Str))=false:=by decide):PE X (.Call (.Name x p) [] [] pos) (Zfv C sp dvs E Zaf):=by
 intro pins s σ H Q I h;refine wpAny_Call_Name_kw (ZdO I hg hm ?_ hdb);exact PySem.W.callWith_K0 I.kIn M.kp (Zks (us:=[]) M F hr hb hd hx I .nil h)
end
section
variable{X:Cx}{CX:CXT}{k:Nat}{f C:Addr}{fd:FuncData}{ps ks:List Str}{sp:Sp}{E:XK}{x m:Str}{p pos apos kpos:Pos}{e o:Expr}{es:List Expr}{kws:List Keyword}{te ta:TE}{t tk:TA}{nm:Option Str}
variable{g:List Value->List Value->List Value}{gV:List V->List V->List V}
end
structure Zo(N P:List Str)(sc:Scope):Prop where
 kind:sc.kind=.function
 co:sc.isCoroutine=false
 gen:sc.isGenerator=false
 nd:N.Nodup
 pre:N.take P.length=P
 par:∀x∈P,sc.names.lookup x=some .local\/sc.names.lookup x=some .cell
 Zpt:∀y∈sc.names,y.2≠.free
theorem Zkt{kindOf:Str->Option NameKind}{x:Str}:∀{binds:List (Str×Value)}{m:Str->Option Value},(∀v,(x,v)∉binds)->bindL kindOf binds m x=m x
 |[],_,_=>rfl
 |(n,v)::r,m,h=>by
  unfold bindL;rw[Zkt fun w hw=>h w (List.mem_cons_of_mem _ hw)];split
  ·have:x≠n:=by rintro rfl;exact h v List.mem_cons_self
   simp[this]
  ·rfl
theorem Zku{kindOf:Str->Option NameKind}{x:Str}:∀{binds:List (Str×Value)}{m:Str->Option Value},(∀v,(x,v)∉binds)->bindC kindOf binds m x=m x
 |[],_,_=>rfl
 |(n,v)::r,m,h=>by
  unfold bindC;rw[Zku fun w hw=>h w (List.mem_cons_of_mem _ hw)];split
  ·rfl
  ·have:x≠n:=by rintro rfl;exact h v List.mem_cons_self
   simp[this]
theorem Zkv{kindOf:Str->Option NameKind}{x:Str}{v:Value}:∀{P:List Str}{vs:List Value}{i:Nat}{m:Str->Option Value},P.Nodup->P[i]?=some x->vs[i]?=some v->kindOf x=some .local ->
  bindL kindOf (P.zip vs) m x=some v
 |[],_,_,_,_,h,_,_=>by simp at h
 |_::_,[],_,_,_,_,h,_=>by simp at h
 |p::P,w::vs,0,m,nd,h1,h2,hk=>by
  simp at h1 h2;subst h1;subst h2;show bindL kindOf ((p,w)::P.zip vs) m p=_;unfold bindL;rw[Zkt fun v hv=>(List.nodup_cons.mp nd).1 (List.of_mem_zip hv).1,if_pos hk];simp
 |p::P,w::vs,i+1,m,nd,h1,h2,hk=>by
  show bindL kindOf ((p,w)::P.zip vs) m x=_;unfold bindL;exact Zkv (i:=i) (List.nodup_cons.mp nd).2 (by simpa using h1) (by simpa using h2) hk
theorem Zkw{kindOf:Str->Option NameKind}{x:Str}{v:Value}:∀{P:List Str}{vs:List Value}{i:Nat}{m:Str->Option Value},P.Nodup->P[i]?=some x->vs[i]?=some v->kindOf x≠some .local ->
  bindC kindOf (P.zip vs) m x=some v
 |[],_,_,_,_,h,_,_=>by simp at h
 |_::_,[],_,_,_,_,h,_=>by simp at h
 |p::P,w::vs,0,m,nd,h1,h2,hk=>by
  simp at h1 h2;subst h1;subst h2;show bindC kindOf ((p,w)::P.zip vs) m p=_;unfold bindC;rw[Zku fun v hv=>(List.nodup_cons.mp nd).1 (List.of_mem_zip hv).1,if_neg hk];simp
 |p::P,w::vs,i+1,m,nd,h1,h2,hk=>by
  show bindC kindOf ((p,w)::P.zip vs) m x=_;unfold bindC;exact Zkw (i:=i) (List.nodup_cons.mp nd).2 (by simpa using h1) (by simpa using h2) hk
def start(N:List Str)(vs:List V):St:=vs.map some++List.replicate (N.length - vs.length) none
def Zbp(CX:CXT)(P:Program)(w:World)(K:PySem.W.Frag)(mg:Str->Option Value)(base:Heap)(N:List Str)(qual:Str)(scope:Scope)(f:Addr)(cd:Value)(A:Around)(outer:List Env)(s:Shared)(H:Hp)(E:XK):Cx where
 prog:=P
 w:=w
 K:=K
 mg:=mg
 base:=base
 A:=A.deeper (envOfC qual scope s.heap.objs.size f cd)
 N:=N
 s_0:=s
 H_0:=H
 env:=envOfC qual scope s.heap.objs.size f cd
 outer:=outer
 stack:=envOfC qual scope s.heap.objs.size f cd::outer
 ex:=[]
 calm:=true
 fn:=fun _=>true
 pn:=[]
 xe:=fun e s'=>wpAny (model P w) (A.deeper (envOfC qual scope s.heap.objs.size f cd)) (leaving (envOfC qual scope s.heap.objs.size f cd) e) (fun _ s''=>CX outer H s E e s'') (fun e' s''=>CX outer H s E e' s'') s'
theorem Zkx{sc:Scope}{n:Nat}{x:Str}(h:sc.names.lookup x=some .cell):∃c,(cellsFrom n sc.names []).lookup x=some c:=by
 have q:=PySem.W.cellsFrom_some sc.names n [] (.inl h);exact Option.isSome_iff_exists.mp q
theorem Zpu{CX:CXT}{P:Program}{w:World}{K:PySem.W.Frag}{mg:Str->Option Value}{base:Heap}{N ps:List Str}{qual:Str}{scope:Scope}{f:Addr}{cd:Value}{A:Around}{outer:List Env}{s s1:Shared}{H:Hp}{E:XK}{us:List Value}{vs:List V}
  (S:Zo N ps scope) (hd:A.handled=none) (e0:Zdj P w K mg base A outer s H) (hl:vs.length=ps.length) (r:Zn vs us)
  (x:InCallC s s.heap.objs.size (bindL (envOfC qual scope s.heap.objs.size f cd).kindOf (ps.zip us) fun _=>none) (cellsFrom (s.heap.objs.size+1) scope.names []) (bindC (envOfC qual scope s.heap.objs.size f cd).kindOf (ps.zip us) fun _=>none) s1) :
  Inv (Zbp CX P w K mg base N qual scope f cd A outer s H E) [] (start N vs) H s1:=by
 have hpl:ps.length<=N.length:=by have:=congrArg List.length S.pre;rw[List.length_take] at this;omega
 obtain⟨h1,tk,rfl,hk⟩:=x.done;have noA:∀b:Addr,b∉(Zbp CX P w K mg base N qual scope f cd A outer s H E).ex:=fun b z=>absurd (show b∈([]:List Addr) from z) (by simp);refine⟨⟨e0.mod,S.kind,rfl,rfl,Nat.le_refl _,fun y z c h1 h2=>?_,fun y hy=>?_,fun y c _ h=>?_,fun _=>hd,Around.frames_deeper e0.frames,.inr ⟨rfl,rfl⟩,fun b z=>absurd z (noA b),e0.bs,e0.bsz,fun b _ _=>noA b,fun b z=>absurd z (noA b),e0.Zbl,e0.frf⟩,
  rfl,e0.bare,Un.kept hk,⟨_,x.toInCall.ns,fun i y v h1 h2 h3=>?_⟩,fun y c h=>⟨_,x.cell y c h⟩,e0.hok.fresh (Nat.le_refl _),fun y c h=>?_,fun p hp=>absurd (show p∈([]:List (Addr×Obj)) from hp) (by simp),e0.hok.kept hk,?_⟩
 ·exact name_of_addr x.apart (PySem.mem_of_lookup h1) (PySem.mem_of_lookup h2)
 ·have hy:scope.names.lookup y=some .cell\/scope.names.lookup y=some .free:=hy;rcases hy with hy|hy
  ·exact Zkx hy
  ·exact absurd rfl (S.Zpt _ (PySem.mem_of_lookup hy))
 ·exact Nat.le_of_lt (x.above y c (PySem.mem_of_lookup h))
 ·have hi:i < vs.length:=by
   unfold start at h2;by_cases hi:i < vs.length
   ·exact hi
   ·rw[List.getElem?_append_right (by simpa using hi)] at h2;rw[List.getElem?_replicate] at h2;split at h2<;>cases h2
  have ha:vs[i]?=some v:=by
   unfold start at h2;rw[List.getElem?_append_left (by simpa using hi),List.getElem?_map] at h2;cases e:vs[i]? with
   |none=>rw[e] at h2;cases h2
   |some a=>rw[e] at h2;cases h2;rfl
  obtain⟨u,hu,rv⟩:=r.get ha;have hp:ps[i]?=some y:=by
   rw[←S.pre,List.getElem?_take_of_lt (by omega)];exact h1
  have ndP:ps.Nodup:=by rw[←S.pre];exact S.nd.sublist (List.take_sublist _ _)
  refine⟨u,rv,?_⟩;rcases S.par y (List.mem_of_getElem? hp) with k|k
  ·exact .inl ⟨k,Zkv ndP hp hu k⟩
  ·obtain⟨c,e⟩:=Zkx (n:=s.heap.objs.size+1) k;refine .inr ⟨.inl k,c,e,?_⟩;have q:=x.cell y c e;rw[Zkw ndP hp hu (by show scope.names.lookup y≠_;rw[k];decide)] at q;exact q
 ·exact e0.hok.fresh (Nat.le_of_lt (x.above y c (PySem.mem_of_lookup h)))
 ·unfold start;show _=N.length;rw[List.length_append,List.length_map,List.length_replicate];omega
theorem Zky{CX:CXT}{P:Program}{w:World}{K:PySem.W.Frag}{mg:Str->Option Value}{base:Heap}{k:Nat}{f:Addr}{name qual:Str}{params:Arguments}{body:List Stmt}{scope:Scope}{dV kV doc pm cdv ct oc:Value}{an od:Option Addr}
  {osl:Array (Option Value)} {N ps:List Str} {sp:Sp} (lk:K.lookup f=some ⟨oc,od,.func (PySem.W.fnOf name qual params body scope dV kV doc pm an cdv ct),osl⟩) (hcd:PySem.W.codeIn K cdv qual=true) (S:Zo N ps scope)
  (len:∀vs H Q E,sp vs H Q E->vs.length=ps.length)
  (hbody:∀(A:Around)(outer:List Env)(s:Shared)(H:Hp)(vs:List V)(Q:VK)(E:XK),ZZ k (A.deeper (envOfC qual scope s.heap.objs.size f cdv))->sp vs H Q E ->
   ∃t,PSs (Zbp CX P w K mg base N qual scope f cdv A outer s H E) body t/\t { nx:=fun _ H'=>Q .non H',rt:=Q } (start N vs) H) :
  ZaH P w K mg base CX (k+1) f (PySem.W.fnOf name qual params body scope dV kV doc pm an cdv ct) ps sp:=by
 refine⟨len,fun A outer s H args us vs Q E hr e0 hb r hsp=>?_⟩;have hl:=len _ _ _ _ hsp;have KX:K.In s.heap:=e0.mod.kin.keeps fun b o e=>(e0.bs b o e).1;have lim:s.heap.NoLimit:=e0.mod.nolimit.keeps fun b o e=>(e0.bs b o e).1;have hkind:∀y∈ps.zip us,scope.names.lookup y.1=some .local\/(scope.names.lookup y.1=some .cell/\((cellsFrom (s.heap.objs.size+1) scope.names []).lookup y.1).isSome=true):=fun⟨n,v⟩ hy=>by
  rcases S.par n (List.of_mem_zip hy).1 with q|q
  ·exact .inl q
  ·exact .inr ⟨q,PySem.W.cellsFrom_some _ _ _ (.inl q)⟩
 refine codeAny_call_function hr.depth (KX _ _ lk) rfl S.co S.gen rfl (PySem.W.codeRec_of KX hcd) (hb _ _ _ _ ?_);refine wpAny_newFunctionEnv_cells S.kind hkind fun env he s1 x=>?_;subst he;refine⟨lim.keeps x.toInCall.keep,codeAny_func ?_⟩;obtain⟨t,ht,hq⟩:=hbody A outer s H vs Q E (hr.deeper _) hsp;have I:Inv (Zbp CX P w K mg base N qual scope f cdv A outer s H E) [] (start N vs) H s1:=Zpu S hr.hd e0 hl r x;refine wpAny_mono (ht [] s1 (start N vs) H _ I hq) (fun fl s' hs=>?_) fun e s' hs=>hs;have fin:∀{σ':St}{H':Hp}{v:V}{u:Value},Inv (Zbp CX P w K mg base N qual scope f cdv A outer s H E) [] σ' H' s'->RelV v u->Q v H'->CE outer P w H s Q u s' :=
  fun{σ' H' v u} J rv q=>⟨v,H',J.os,J.bare,J.base,J.hok,rv,q⟩
 cases fl with
 |ret u =>
  obtain⟨v,σ',H',J,rv,q⟩:=hs;exact fin J rv q
 |next =>
  obtain⟨σ',H',J,q⟩:=hs;exact fin (v:=V.non) (u:=Value.none) J rfl q
 |brk =>
  obtain⟨_,_,_,q⟩:=hs;exact False.elim q
 |cont =>
  obtain⟨_,_,_,q⟩:=hs;exact False.elim q
end L2
namespace L2
open PySem PySem.Spec PyProof.Rows
section
variable{X:Cx}{x:Str}{p pos:Pos}{e:Expr}{es:List Expr}{t:TA}{id T:String}{r:List V->Hp->VK->Prop}
def tCB(r:List V->Hp->VK->Prop)(t:TA):TE:=fun σ H Q=>t σ H fun vs H1=>r vs H1 Q
theorem ZN(hc:ZbQ X (.builtin id) r)(hg:Gl X x)(hm:X.mg x=none)(hv:bootBuiltins x=some (.builtin id))(ha:PA X (e::es) t)(hn:x≠"__name__":=by decide)(hdb:(x==("__debug__":Str))=false:=by decide)
  (he:starEach (e::es) X.env=(false,eval e X.env)::starEach es X.env:=by rfl) (hpl:(backTo pos (starEach es X.env)).any (·.1)=false:=by rfl):PE X (.Call (.Name x p) (e::es) [] pos) (tCB r t):=by
 intro pins s σ H Q I h;refine wpAny_Call_Name_kw (Zfp I hg hm hv ?_ hn hdb);exact PyProof.Rows.callWith_builtin1 (thn (ha pos pins s σ H _ I h) fun us s1 ⟨vs,H1,I1,r1,q1⟩=>hc pins s1 σ H1 vs us Q I1 r1 q1) he hpl
theorem Zfw(hc:ZbQ X (.type T) r)(hg:Gl X x)(hm:X.mg x=none)(hv:bootBuiltins x=some (.type T))(ha:PA X (e::es) t)(hn:x≠"__name__":=by decide)(hdb:(x==("__debug__":Str))=false:=by decide)
  (he:starEach (e::es) X.env=(false,eval e X.env)::starEach es X.env:=by rfl) (hpl:(backTo pos (starEach es X.env)).any (·.1)=false:=by rfl):PE X (.Call (.Name x p) (e::es) [] pos) (tCB r t):=by
 intro pins s σ H Q I h;refine wpAny_Call_Name_kw (Zfp I hg hm hv ?_ hn hdb);exact PyProof.Rows.callWith_type1 (thn (ha pos pins s σ H _ I h) fun us s1 ⟨vs,H1,I1,r1,q1⟩=>hc pins s1 σ H1 vs us Q I1 r1 q1) he hpl
end
end L2
namespace HT
open PySem PyProof.Rows
section
open PySem.SeqAt
open PySem.AutoSeq1 (wpAny_loadPart')
open PySem.MeetsSeq PySem.MeetsSeq2 PySem.MeetsSeq3
end
section
variable{prog:Program}{w:World}{A:Around}{E:Value->Shared->Prop}{s:Shared}
def sIx(n d:Nat):Option Int->Nat
 |none=>d
 |some v=>if v < 0 then(v+(n:Int)).toNat else min v.toNat n
theorem ZdW(n d k:Nat):sIx n d (some (k:Int))=min k n:=by
 show(if(k:Int) < 0 then((k:Int)+(n:Int)).toNat else min (k:Int).toNat n)=min k n;rw[if_neg (by omega),Int.toNat_natCast]
end
end HT
namespace L2
open PySem PySem.Spec PyProof.Rows
abbrev TO:=St->Hp->(Option Int->Hp->Prop)->Prop
def PO(X:Cx)(e:Option Expr)(t:TO):Prop :=
 ∀(pins:List (Addr×Obj))(s:Shared)(σ:St)(H:Hp)(Q:Option Int->Hp->Prop),Inv X pins σ H s->t σ H Q ->
  wpAny (model X.prog X.w) X.A (evalPart e X.env) (fun u s'=>∃o H',Inv X pins σ H' s'/\IsPart u o/\Q o H') X.xe s
def Zpv:TO:=fun _ H Q=>Q none H
inductive Zpw(x:V)(H1:Hp)(Q:Option Int->Hp->Prop):Prop
 |mk (i) (_:x=.int i) (_:Q (some i) H1)
def Zpx(t:TE):TO:=fun σ H Q=>t σ H fun x H1=>Zpw x H1 Q
section
variable{X:Cx}{e:Expr}{te:TE}{lo hi:Option Expr}{tl th:TO}{pos p2:Pos}
theorem Zfx:PO X none Zpv:=by
 intro pins s σ H Q I h;rw[evalPart_none];exact wpAny_pure ⟨none,H,I,.none,h⟩
theorem Zb8(h:PE X e te):PO X (some e) (Zpx te):=by
 intro pins s σ H Q I hw;rw[evalPart_some];refine thn (h pins s σ H _ I hw) fun u s1 ⟨x,H1,I1,r1,q1⟩=>?_;obtain⟨i,rfl,q⟩:=q1;obtain⟨t,rfl⟩:=r1;exact⟨some i,H1,I1,.int i t,q⟩
def SlR(X:Cx)(r:V->Option Int->Option Int->Hp->VK->Prop):Prop :=
 ∀(pins:List (Addr×Obj))(s:Shared)(σ:St)(H:Hp)(x:V)(v vl vu:Value)(lo hi:Option Int)(sl:Addr)(Q:VK),Inv X pins σ H s->RelV x v->s.heap.IsSliceOf sl vl vu .none->IsPart vl lo->IsPart vu hi->r x lo hi H Q ->
  ∃T id,typeLookup (.type T) "__getitem__"=pure (some (.builtin id))/\s.TypeIs v T/\wpAny (model X.prog X.w) X.A (getItem v (.ref sl)) (EP X pins σ Q) X.xe s
def tSl(r:V->Option Int->Option Int->Hp->VK->Prop)(te:TE)(tl th:TO):TE:=fun σ H Q=>te σ H fun x H1=>tl σ H1 fun l H2=>th σ H2 fun u H3=>r x l u H3 Q
theorem Zdk{r:V->Option Int->Option Int->Hp->VK->Prop}(hr:SlR X r)(he:PE X e te)(hl:PO X lo tl)(hu:PO X hi th):PE X (.Subscript e (.Slice lo hi none p2) pos) (tSl r te tl th):=by
 intro pins s σ H Q I h;refine Subscript_ (thn (he pins s σ H _ I h) fun v s1 ⟨x,H1,I1,r1,q1⟩=>?_);refine wpAny_Slice (thn (hl pins s1 σ H1 _ I1 q1) fun vl s2 ⟨l,H2,I2,pl,q2⟩=>thn (hu pins s2 σ H2 _ I2 q2) fun vu s3 ⟨u,H3,I3,pu,q3⟩=>?_);rw[evalPart_none];refine wpAny_pure ?_;have I4:Inv X pins σ H3 { s3 with heap:=s3.heap.push { cls:=.type "slice",data:=.fields #[vl,vu,.none] } }:=I3.kept (t':=s3.toks) fun b ob q=>Heap.get?_push_of_some _ q;obtain⟨T,id,hT,ht,hg⟩:=hr pins { s3 with heap:=s3.heap.push { cls:=.type "slice",data:=.fields #[vl,vu,.none] } } σ H3 x v vl vu l u s3.heap.objs.size Q I4 r1 (Heap.IsSliceOf.new ..) pl pu q3;show wpAny (model X.prog X.w) X.A (subscriptTail e (.Slice lo hi none p2) v (.ref s3.heap.objs.size)) (EP X pins σ Q) X.xe { s3 with heap:=s3.heap.push { cls:=.type "slice",data:=.fields #[vl,vu,.none] } };exact tail_any (ops:=[.ref s3.heap.objs.size,v]) ht hT hg (by with_unfolding_all rfl)
def Zba(xs:List V)(lo hi:Option Int):List V:=(xs.drop (HT.sIx xs.length 0 lo)).take (HT.sIx xs.length xs.length hi - HT.sIx xs.length 0 lo)
theorem Zpy(xs:List V)(lo hi:Option Int):(Zba xs lo hi).length<=xs.length:=by
 unfold Zba;rw[List.length_take,List.length_drop];omega
end
end L2
namespace L2
open PySem PySem.Spec PyProof.Rows
def ixN(n:Nat)(i:Int):Option Nat:=if 0<=i then(if i < n then some i.toNat else none) else if -(n:Int)<=i then some (i+n).toNat else none
def atI{α:Type}(xs:List α)(i:Int):Option α:=(ixN xs.length i).bind fun j=>xs[j]?
theorem Zkz{n:Nat}{i:Int}{j:Nat}(h:ixN n i=some j):seqIndex? i n=some j/\j < n/\-(n:Int)<=i/\i < n:=by
 unfold ixN at h;by_cases h0:0<=i
 ·rw[if_pos h0] at h;by_cases h1:i < n
  ·rw[if_pos h1] at h;have e:i.toNat=j:=Option.some.inj h;exact⟨by rw[seqIndex_of h0 h1,e],by omega,by omega,h1⟩
  ·rw[if_neg h1] at h;cases h
 ·rw[if_neg h0] at h;by_cases h1:-(n:Int)<=i
  ·rw[if_pos h1] at h;have e:(i+n).toNat=j:=Option.some.inj h;exact⟨by rw[seqIndex_neg (by omega) h1,e],by omega,h1,by omega⟩
  ·rw[if_neg h1] at h;cases h
theorem Zg9{α:Type}{xs:List α}{i:Int}{v:α}(h:atI xs i=some v):∃j,seqIndex? i xs.length=some j/\xs[j]?=some v/\j < xs.length/\-(xs.length:Int)<=i/\i < xs.length:=by
 unfold atI at h;cases e:ixN xs.length i with
 |none=>rw[e] at h;cases h
 |some j =>
  rw[e] at h;obtain⟨h1,h2,h3,h4⟩:=Zkz e;exact⟨j,h1,h,h2,h3,h4⟩
theorem ZF{α:Type}{xs:List α}{j:Nat}{v:α}(h:xs[j]?=some v):atI xs (j:Int)=some v:=by
 have hj:j < xs.length:=(List.getElem?_eq_some_iff.mp h).1;have e:ixN xs.length (j:Int)=some j:=by
  unfold ixN;rw[if_pos (by omega),if_pos (by omega)];simp
 unfold atI;rw[e];exact h
def Zpz(b:Expr):Prop:=∀o i,subscripted b false o i=operate [o,i] (getItem o i)
def IxR(X:Cx)(r:R2):Prop :=
 ∀(value slice:Expr)(pins:List (Addr×Obj))(s:Shared)(σ:St)(H:Hp)(x y:V)(v u:Value)(Q:VK),Inv X pins σ H s->RelV x v->RelV y u->r x y H Q ->
  subscripted slice false v u=operate [v,u] (getItem v u)->wpAny (model X.prog X.w) X.A (subscriptTail value slice v u) (EP X pins σ Q) X.xe s
def MtR(X:Cx)(id:String)(r:V->List V->Hp->VK->Prop):Prop :=
 ∀(pins:List (Addr×Obj))(s:Shared)(σ:St)(H:Hp)(x:V)(xs:List V)(v:Value)(us:List Value)(Q:VK),Inv X pins σ H s->RelV x v->Zn xs us->r x xs H Q ->
  wpAny (model X.prog X.w) X.A (call (.builtin id) (v::us)) (EP X pins σ Q) X.xe s
section
variable{X:Cx}{a b:Expr}{ta tb:TE}{pos:Pos}
theorem ZG{r:R2}(hr:IxR X r)(ha:PE X a ta)(hb:PE X b tb)(hs:Zpz b):PE X (.Subscript a b pos) (tOp r ta tb):=by
 intro pins s σ H Q I h;exact Subscript_ (Zg0 ha hb I h fun v u s2 x y H2 I2 rx ry q=>hr a b pins s2 σ H2 x y v u Q I2 rx ry q (hs _ _))
inductive ZpA(K:PySem.W.Frag)(x y:V)(H:Hp)(Q:VK):Prop
 |mk (p xs i v) (_:x=.ref p) (_:y=.int i) (_:SqL K H p xs) (_:atI xs i=some v) (_:Q v H)
def Zdl(K:PySem.W.Frag):R2:=fun x y H Q=>ZpA K x y H Q
inductive ZpB(K:PySem.W.Frag)(x y:V)(H:Hp)(Q:VK):Prop
 |mk (p xs i v) (_:x=.ref p) (_:y=.int i) (_:SqT K H p xs) (_:atI xs i=some v) (_:Q v H)
def ZkA(K:PySem.W.Frag):R2:=fun x y H Q=>ZpB K x y H Q
inductive ZpC(x y:V)(H:Hp)(Q:VK):Prop
 |mk (z i c) (_:x=.str z) (_:y=.int i) (_:z.length<=sizeLine) (_:atI z.cps.toList i=some c) (_:Q (.str ⟨#[c]⟩) H)
def ZpD:R2:=fun x y H Q=>ZpC x y H Q
theorem ZO:IxR X (Zdl X.K):=by
 intro value slice pins s σ H x y v u Q I rx ry h hs;obtain⟨p,xs,i,z,rfl,rfl,hq,he,q⟩:=h;cases rx;obtain⟨t,rfl⟩:=ry;obtain⟨its,r,pl,hz⟩:=I.list hq;obtain⟨j,h1,h2,h3,h4,h5⟩:=Zg9 he;obtain⟨w,ew,rw'⟩:=r.get h2;have hl:=r.length;have hn:=ZdU;have fin:EP X pins σ Q w s:=⟨z,H,I,rw',q⟩
 by_cases h0:0<=i
 ·have hj:i.toNat=j:=by
   rw[seqIndex_of h0 h5] at h1;exact Option.some.inj h1
  exact item_listR pl.isList h0 (by omega) (by rw[hj];simpa using ew) fin hs
 ·have hj:(i+(its.toArray.size:Int)).toNat=j:=by
   rw[seqIndex_neg (by omega) h4] at h1;rw[List.size_toArray,←hl];exact Option.some.inj h1
  exact subscriptTail_builtinR (x:=w) pl.isList.typeIs slot_list_getitem.lookup
   (wpAny_getItem_list_neg (Q:=fun r s'=>r=w/\EP X pins σ Q r s') pl.isList (by omega) (by rw[List.size_toArray]<;>omega) (by omega) (by rw[hj];simpa using ew) ⟨rfl,fin⟩) hs
theorem Zfy:IxR X (ZkA X.K):=by
 intro value slice pins s σ H x y v u Q I rx ry h hs;obtain⟨p,xs,i,z,rfl,rfl,hq,he,q⟩:=h;cases rx;obtain⟨t,rfl⟩:=ry;obtain⟨its,r,pl,hz⟩:=I.tuple hq;obtain⟨j,h1,h2,h3,h4,h5⟩:=Zg9 he;obtain⟨w,ew,rw'⟩:=r.get h2;have hl:=r.length;have hn:=ZdU;have fin:EP X pins σ Q w s:=⟨z,H,I,rw',q⟩
 exact subscriptTail_builtinR (x:=w) pl.typeIs slot_tuple_getitem.lookup
  (getItem_tuple (j:=j) (Q:=fun r s'=>r=w/\EP X pins σ Q r s') pl (by omega) (by omega) (by rw[List.size_toArray,←hl];exact h1) (by simpa using ew) ⟨rfl,fin⟩) hs
theorem ZkB:IxR X ZpD:=by
 intro value slice pins s σ H x y v u Q I rx ry h hs;obtain⟨z,i,c,rfl,rfl,hz,he,q⟩:=h;obtain⟨t,rfl⟩:=rx;obtain⟨t',rfl⟩:=ry;obtain⟨j,h1,h2,h3,h4,h5⟩:=Zg9 he;have hl:z.cps.toList.length=z.length:=by simp[Str.length]
 rw[hl] at h1 h4 h5;have hn:=ZdU;exact tail_any (typeIs_str s z t) slot_str_getitem.lookup (getItem_str (c:=c) (by
  have e1:decide (i < -(2 ^ 63:Int))=false:=decide_eq_false (by omega);have e2:decide (i≥2 ^ 63)=false:=decide_eq_false (by omega);rw[e1,e2,Bool.or_false]) (by rw[h1];simpa using h2) ⟨.str ⟨#[c]⟩,H,I.tok _,⟨_,rfl⟩,q⟩) hs
theorem ZpE(its:List Value)(n j:Nat)(u:Value):Obj.mapSeq (·.setIfInBounds j u) { cls:=.type "list",data:=.seq its.toArray n }={ cls:=.type "list",data:=.seq (its.set j u).toArray n }:=by
 simp[Obj.mapSeq]
theorem Inv.lst{pins:List (Addr×Obj)}{σ:St}{H:Hp}{s:Shared}{p:Addr}{xs:List V}(I:Inv X pins σ H s)(h:H p=some (.lst xs)) :
  ∃(its:List Value)(n:Nat),Zn xs its/\s.heap.get? p=some { cls:=.type "list",data:=.seq its.toArray n }/\xs.length<=sizeLine:=by
 obtain⟨z,its,n,r,e⟩:=I.hok p _ h;exact⟨its,n,r,e,z⟩
theorem Inv.ZpF{pins:List (Addr×Obj)}{σ:St}{H:Hp}{s:Shared}{p:Addr}{xs ys:List V}{its its':List Value}{n n':Nat}{f:Obj->Obj}(I:Inv X pins σ H s)(h:H p=some (.lst xs))
  (ho:s.heap.get? p=some { cls:=.type "list",data:=.seq its.toArray n }) (hf:f { cls:=.type "list",data:=.seq its.toArray n }={ cls:=.type "list",data:=.seq its'.toArray n' }) (r:Zn ys its') (hz:ys.length<=sizeLine) (t:Nat) :
  Inv X pins σ (upd H p (.lst ys)) { s with heap:=s.heap.update p f,toks:=t }:=by
 have e:(s.heap.update p f).get? p=some { cls:=.type "list",data:=.seq its'.toArray n' }:=by
  rw[Heap.get?_update_self f ho (by rw[hf]<;>rfl),hf]
 refine I.write (x:=p) (e:=p) (by rw[h];trivial) (.inl rfl) (fun b u hb q=>(Heap.get?_update_other _ _ (Ne.symm hb)).trans q) ⟨_,e⟩ ?_;exact⟨hz,its',n',r,e⟩
inductive ZpG(o i v:V)(H:Hp)(Q:Hp->Prop):Prop
 |mk (p xs k j) (_:o=.ref p) (_:i=.int k) (_:H p=some (.lst xs)) (_:ixN xs.length k=some j) (_:Q (upd H p (.lst (xs.set j v))))
def ZpH:V->V->V->Hp->(Hp->Prop)->Prop:=fun o i v H Q=>ZpG o i v H Q
theorem set_list:Zj5 X ZpH:=by
 intro pins s σ H o i v ov iv u Q I ro ri rv h;obtain⟨p,xs,k,j,rfl,rfl,hp,hj,q⟩:=h;cases ro;obtain⟨t,rfl⟩:=ri;obtain⟨its,n,r,ho,hz⟩:=I.lst hp;obtain⟨h1,h2,h3,h4⟩:=Zkz hj;have hl:=r.length;have hn:=ZdU;have I':Inv X pins σ (upd H p (.lst (xs.set j v))) { s with heap:=s.heap.update p (Obj.mapSeq (·.setIfInBounds j u)) } :=
  I.ZpF hp ho (ZpE its n j u) (r.set rv j) (by rw[List.length_set];exact hz) s.toks
 by_cases h0:0<=k
 ·have hk:k.toNat=j:=by
   rw[seqIndex_of h0 h4] at h1;exact Option.some.inj h1
  exact PySem.W.ki_setAt ho h0 (by omega) (by rw[List.size_toArray,←hl];exact h4) (by rw[hk];exact⟨_,I',q⟩)
 ·have hk:(k+(its.toArray.size:Int)).toNat=j:=by
   rw[seqIndex_neg (by omega) h3] at h1;rw[List.size_toArray,←hl];exact Option.some.inj h1
  exact PySem.W.ki_setBack ho (by omega) (by rw[List.size_toArray,←hl];exact h3) (by omega) (by rw[hk];exact⟨_,I',q⟩)
theorem ZpI(lo hi:Option Int)(n:Nat):(sliceBounds lo hi none n).1=((HT.sIx n 0 lo:Nat):Int)/\(sliceBounds lo hi none n).2.1=((HT.sIx n n hi:Nat):Int)/\(sliceBounds lo hi none n).2.2=1:=by
 refine⟨?_,?_,rfl⟩
 ·cases lo with
  |none=>simp[sliceBounds,HT.sIx]
  |some i =>
   simp only[sliceBounds,HT.sIx,Option.getD_none,show(1:Int) > 0 by decide,if_true];by_cases h:i < 0
   ·simp only[h,if_true]<;>omega
   ·simp only[h,if_false]<;>omega
 ·cases hi with
  |none=>simp[sliceBounds,HT.sIx]
  |some i =>
   simp only[sliceBounds,HT.sIx,Option.getD_none,show(1:Int) > 0 by decide,if_true];by_cases h:i < 0
   ·simp only[h,if_true]<;>omega
   ·simp only[h,if_false]<;>omega
theorem ZpJ(its:List Value)(lo hi:Option Int):slicePick its.toArray lo hi none=((its.drop (HT.sIx its.length 0 lo)).take (HT.sIx its.length its.length hi - HT.sIx its.length 0 lo)).toArray:=by
 obtain⟨h1,h2,h3⟩:=ZpI lo hi its.toArray.size;unfold slicePick;rw[h1,h2,h3];simp only[sliceRange_one,pick_run,List.size_toArray]<;>rfl
inductive ZpK(K:PySem.W.Frag)(x:V)(lo hi:Option Int)(H:Hp)(Q:VK):Prop
 |mk (a xs) (_:x=.ref a) (_:SqL K H a xs) (_:∀p,H p=none->Q (.ref p) (upd H p (.lst (Zba xs lo hi))))
def ZpL(K:PySem.W.Frag):V->Option Int->Option Int->Hp->VK->Prop:=fun x lo hi H Q=>ZpK K x lo hi H Q
theorem Zdm:SlR X (ZpL X.K):=by
 intro pins s σ H x v vl vu lo hi sl Q I rx hs pl pu h;obtain⟨a,xs,rfl,hx,q⟩:=h;cases rx;obtain⟨its,r,ht,hz⟩:=I.list hx;have hlen:=r.length;refine⟨"list",_,slot_list_getitem.lookup,ht.isList.typeIs,?_⟩;refine wpAny_getItem_list_slice ht.isList hs pl pu .none (by simp) ?_ (by rw[List.size_toArray]<;>omega);rw[ZpJ,←hlen];refine⟨.ref s.heap.objs.size,_,I.laid (t':=s.toks) (o:=.lst (Zba xs lo hi)) (fun b ob q=>Heap.get?_push_of_some _ q) (Nat.le_refl _) ?_,rfl,q _ (I.hok.fresh (Nat.le_refl _))⟩;exact⟨Nat.le_trans (Zpy xs lo hi) hz,_,0,(r.drop (HT.sIx xs.length 0 lo)).take (HT.sIx xs.length xs.length hi - HT.sIx xs.length 0 lo),Heap.get?_push_size _ rfl⟩
def Zbq:V->Bool
 |.non=>true
 |.bl _=>true
 |.int _=>true
 |.str _=>true
 |_=>false
def eqV:V->V->Bool
 |.non,.non=>true
 |.bl a,.bl b=>a==b
 |.bl a,.int b=>(if a then 1 else 0)==b
 |.int a,.bl b=>a==(if b then 1 else 0)
 |.int a,.int b=>a==b
 |.str a,.str b=>a==b
 |_,_=>false
theorem ZpM{A:Around}{s:Shared}{y x:V}{u v:Value}(ry:RelV y u)(rx:RelV x v)(fy:Zbq y=true)(fx:Zbq x=true):SeqAt.EqAt A s u v (eqV y x):=by
 cases y with
 |non =>
  cases ry;cases x with
  |non=>cases rx;exact SeqAt.EqAt.same _
  |bl b=>cases rx;exact SeqAt.EqAt.none_bool b
  |int b=>obtain⟨t,rfl⟩:=rx;exact SeqAt.EqAt.none_int b t
  |str b=>obtain⟨t,rfl⟩:=rx;exact SeqAt.EqAt.none_str b t
  |_=>exact absurd (show false=true from fx) Bool.false_ne_true
 |bl a =>
  cases ry;cases x with
  |non=>cases rx;exact SeqAt.EqAt.bool_none a
  |bl b=>cases rx;exact SeqAt.EqAt.bool_bool a b
  |int b=>obtain⟨t,rfl⟩:=rx;exact SeqAt.EqAt.bool_int a b t
  |str b=>obtain⟨t,rfl⟩:=rx;exact SeqAt.EqAt.bool_str a b t
  |_=>exact absurd (show false=true from fx) Bool.false_ne_true
 |int a =>
  obtain⟨t',rfl⟩:=ry;cases x with
  |non=>cases rx;exact SeqAt.EqAt.int_none a t'
  |bl b=>cases rx;exact SeqAt.EqAt.int_bool a t' b
  |int b=>obtain⟨t,rfl⟩:=rx;exact SeqAt.EqAt.int_int a t' b t
  |str b=>obtain⟨t,rfl⟩:=rx;exact SeqAt.EqAt.int_str a t' b t
  |_=>exact absurd (show false=true from fx) Bool.false_ne_true
 |str a =>
  obtain⟨t',rfl⟩:=ry;cases x with
  |non=>cases rx;exact SeqAt.EqAt.str_none a t'
  |bl b=>cases rx;exact SeqAt.EqAt.str_bool a t' b
  |int b=>obtain⟨t,rfl⟩:=rx;exact SeqAt.EqAt.str_int a t' b t
  |str b=>obtain⟨t,rfl⟩:=rx;exact SeqAt.EqAt.str_str a t' b t
  |_=>exact absurd (show false=true from fx) Bool.false_ne_true
 |_=>exact absurd (show false=true from fy) Bool.false_ne_true
def eqU(x:V)(u:Value):Bool:=match u with
 |.none=>eqV .non x
 |.bool b=>eqV (.bl b) x
 |.int i _=>eqV (.int i) x
 |.str z _=>eqV (.str z) x
 |_=>false
theorem Zha{x y:V}{u:Value}(r:RelV y u)(f:Zbq y=true):eqU x u=eqV y x:=by
 cases y with
 |non=>cases r;rfl
 |bl b=>cases r;rfl
 |int i=>obtain⟨t,rfl⟩:=r;rfl
 |str z=>obtain⟨t,rfl⟩:=r;rfl
 |_=>exact absurd (show false=true from f) Bool.false_ne_true
theorem Zhb{x:V}:∀{xs:List V}{us:List Value},Zn xs us->xs.all Zbq=true->us.any (eqU x)=xs.any fun y=>eqV y x
 |_,_,.nil,_=>rfl
 |y::xs,u::us,.cons r t,f=>by
  rw[List.all_cons,Bool.and_eq_true] at f;rw[List.any_cons,List.any_cons,Zha r f.1,Zhb t f.2]
theorem Zfz{A:Around}{s:Shared}{x:V}{v:Value}(rx:RelV x v)(fx:Zbq x=true):∀{xs:List V}{us:List Value},Zn xs us->xs.all Zbq=true->∀u∈us,SeqAt.EqAt A s u v (eqU x u)
 |_,_,.nil,_=>fun u hu=>by cases hu
 |y::xs,u::us,.cons r t,f=>fun u' hu=>by
  rw[List.all_cons,Bool.and_eq_true] at f;rcases List.mem_cons.mp hu with rfl|hu
  ·rw[Zha r f.1];exact ZpM r rx f.1 fx
  ·exact Zfz rx fx t f.2 u' hu
def inV(x:V)(xs:List V):Bool:=xs.any fun y=>eqV y x
inductive ZpN(K:PySem.W.Frag)(neg:Bool)(x y:V)(H:Hp)(Q:VK):Prop
 |mk (p xs) (_:y=.ref p) (_:(SqL K H p xs\/SqT K H p xs)) (_:Zbq x=true) (_:xs.all Zbq=true) (_:Q (.bl (if neg then !inV x xs else inV x xs)) H)
def rIn(K:PySem.W.Frag)(neg:Bool):R2:=fun x y H Q=>ZpN K neg x y H Q
theorem ZkC:OpR X (compareOp .In) (rIn X.K false):=by
 intro pins s σ H x y v u Q I rx ry h;obtain⟨p,xs,rfl,hq,fx,fs,q⟩:=h;cases ry;rcases hq with hq|hq
 ·obtain⟨its,r,pl,hz⟩:=I.list hq;refine SeqAt.in_listAt (eqU x) pl.isList (fun w hw=>Zfz rx fx r fs w (by simpa using hw)) ⟨.bl _,H,I,rfl,?_⟩;rw[show its.toArray.any (eqU x)=its.any (eqU x) by simp,Zhb r fs];exact q
 ·obtain⟨its,r,pl,hz⟩:=I.tuple hq;refine SeqAt.in_tupleAt (eqU x) pl (fun w hw=>Zfz rx fx r fs w (by simpa using hw)) ⟨.bl _,H,I,rfl,?_⟩;rw[show its.toArray.any (eqU x)=its.any (eqU x) by simp,Zhb r fs];exact q
theorem Z0:ZbQ X (.builtin "len") (fun xs H Q=>∃p ys,xs=[.ref p]/\(SqL X.K H p ys\/SqT X.K H p ys)/\Q (.int ys.length) H):=by
 intro pins s σ H xs us Q I r h;obtain⟨p,ys,rfl,hq,q⟩:=h;obtain⟨u,rfl,rx⟩:=vals1 r;cases rx;have hn:=ZdU;rcases hq with hq|hq
 ·obtain⟨its,r',pl,hz⟩:=I.list hq;have hlen:=r'.length;exact Calls.call_len_list pl.isList (by simp only[List.size_toArray]<;>omega) ⟨.int ys.length,H,I.tok _,⟨s.toks+1,by rw[List.size_toArray,hlen]⟩,q⟩
 ·obtain⟨its,r',pl,hz⟩:=I.tuple hq;have hlen:=r'.length;exact len_tuple pl (by simp only[List.size_toArray]<;>omega) ⟨.int ys.length,H,I.tok _,⟨s.toks+1,by rw[List.size_toArray,hlen]⟩,q⟩
theorem ZpO:ZbQ X (.type "list") (fun xs H Q=>∃p ys,xs=[.ref p]/\(SqL X.K H p ys\/SqT X.K H p ys)/\∀l,H l=none->Q (.ref l) (upd H l (.lst ys))):=by
 intro pins s σ H xs us Q I r h;obtain⟨p,ys,rfl,hq,q⟩:=h;obtain⟨u,rfl,rx⟩:=vals1 r;cases rx;have fin:∀(its:List Value),Zn ys its->ys.length<=sizeLine->∀(h':Heap)(c':Nat),(∀b o',s.heap.get? b=some o'->h'.get? b=some o') ->
   h'.get? s.heap.objs.size=some { cls:=.type "list",dict:=none,data:=.seq its.toArray c',slots:=#[] }->EP X pins σ Q (.ref s.heap.objs.size) { s with heap:=h' }:=fun its r' hz h' c' kp e =>
  ⟨.ref s.heap.objs.size,_,I.laid (t':=s.toks) kp (Nat.le_refl _) (show Zac X.prog X.w _ h' _ (.lst ys) from⟨hz,its,c',r',e⟩),rfl,q _ (I.hok.fresh (Nat.le_refl _))⟩
 rcases hq with hq|hq
 ·obtain⟨its,r',pl,hz⟩:=I.list hq;have hlen:=r'.length;obtain⟨o,ho,hc,n,hd⟩:=pl.isList;exact call_list_seq p (.inl rfl) ho hc hd (fun h' c' kp e=>fin its r' hz h' c' kp e) (by simp only[List.size_toArray]<;>omega)
 ·obtain⟨its,r',pl,hz⟩:=I.tuple hq;have hlen:=r'.length;obtain⟨o,ho,hc,n,hd⟩:=pl;exact call_list_seq p (.inr rfl) ho hc hd (fun h' c' kp e=>fin its r' hz h' c' kp e) (by simp only[List.size_toArray]<;>omega)
theorem ZkD:ZbQ X (.type "tuple") (fun xs H Q=>∃p ys,xs=[.ref p]/\((SqL X.K H p ys/\∀l,H l=none->Q (.ref l) (upd H l (.tup ys)))\/(SqT X.K H p ys/\Q (.ref p) H))):=by
 intro pins s σ H xs us Q I r h;obtain⟨p,ys,rfl,h⟩:=h;obtain⟨u,rfl,rx⟩:=vals1 r;cases rx;rcases h with⟨hq,q⟩|⟨hq,q⟩
 ·obtain⟨its,r',pl,hz⟩:=I.list hq;have hlen:=r'.length;refine call_tuple_list pl.isList (fun h' kp=>?_) (by simp only[List.size_toArray]<;>omega);have I1:Inv X pins σ H { s with heap:=h' }:=I.kept (t':=s.toks) kp;have I2:Inv X pins σ (upd H h'.objs.size (.tup ys)) { s with heap:=h'.push { cls:=.type "tuple",data:=.seq its.toArray } } :=
   I1.laid (t':=s.toks) (fun b o e=>Heap.get?_push_of_some _ e) (Nat.le_refl _) (show Zac X.prog X.w _ _ _ (.tup ys) from⟨hz,its,r',IsTup.new _ _⟩)
  exact⟨.ref h'.objs.size,_,I2,rfl,q _ (I1.hok.fresh (Nat.le_refl _))⟩
 ·obtain⟨its,r',pl,hz⟩:=I.tuple hq;exact call_tuple_same pl ⟨.ref p,H,I,rfl,q⟩
def tyV(K:PySem.W.Frag)(T:String)(x:V)(H:Hp):Prop:=match x with
 |.str _=>T="str"
 |.int _=>T="int"
 |.ref p=>(T="list"/\∃xs,SqL K H p xs)\/(T="tuple"/\∃o,K.lookup p=some o/\o.cls=.type "tuple"/\o.dict=none) \/
   (T="dict"/\((∃kvs,H p=some (.dK kvs))\/∃kvs,H p=some (.dT kvs)))\/(T="set"/\∃S n,H p=some (.set S n))
 |_=>False
theorem ZkE{pins:List (Addr×Obj)}{σ:St}{H:Hp}{s:Shared}{T:String}{x:V}{v:Value}(I:Inv X pins σ H s)(r:RelV x v)(ty:tyV X.K T x H) :
  s.TypeIs v T/\∀a,v=.ref a->∃ob,s.heap.get? a=some ob/\ob.dict=none:=by
 cases x with
 |str z =>
  obtain⟨t,rfl⟩:=r;cases(show T="str" from ty);exact⟨typeIs_str s z t,fun _ e=>nomatch e⟩
 |int i =>
  obtain⟨t,rfl⟩:=r;cases(show T="int" from ty);exact⟨typeIs_int s i t,fun _ e=>nomatch e⟩
 |ref p =>
  cases r;rcases ty with⟨rfl,xs,hq⟩|⟨rfl,o,hk,hc,hd⟩|⟨rfl,hk⟩|⟨rfl,S,n,hk⟩
  ·obtain⟨its,_,pl,_⟩:=I.list hq;refine⟨pl.isList.typeIs,fun a e=>?_⟩;cases e;obtain⟨o,n,e,c,hd,_⟩:=pl;exact⟨o,e,hd⟩
  ·refine⟨⟨o,I.kIn p o hk,hc⟩,fun a e=>?_⟩;cases e;exact⟨o,I.kIn _ o hk,hd⟩
  ·have z:∃o,s.heap.get? p=some o/\o.ExactDict:=by
    rcases hk with⟨kvs,hk⟩|⟨kvs,hk⟩
    ·obtain⟨_,_,_,_,o,_,_,e,ex,_⟩:=I.hok p _ hk;exact⟨o,e,ex⟩
    ·obtain⟨_,_,_,_,o,_,_,e,ex,_⟩:=I.hok p _ hk;exact⟨o,e,ex⟩
   obtain⟨o,e,ex⟩:=z;refine⟨⟨o,e,ex.1⟩,fun a e2=>?_⟩;cases e2;exact⟨o,e,ex.2.1⟩
  ·obtain⟨o,_,_,_,e,ex,_⟩:=I.hok p _ hk;refine⟨⟨o,e,ex.1⟩,fun a e2=>?_⟩;cases e2;exact⟨o,e,ex.2.1⟩
 |_=>exact False.elim ty
def ZpP(K:PySem.W.Frag)(T:String)(r:V->List V->Hp->VK->Prop)(to:TE):TE:=fun σ H Q=>to σ H fun x H1=>tyV K T x H1/\r x [] H1 Q
def tBM(K:PySem.W.Frag)(T:String)(r:V->List V->Hp->VK->Prop)(to:TE)(t:TA):TE:=fun σ H Q=>to σ H fun x H1=>tyV K T x H1/\t σ H1 fun xs H2=>r x xs H2 Q
variable{o e:Expr}{es:List Expr}{to:TE}{t:TA}{name:Str}{apos cpos:Pos}{T id:String}{r:V->List V->Hp->VK->Prop}
theorem ZpQ(pa:PlainAttrs T)(slot:Slot T name id)(hty:typeOf (.builtin id)=pure (.type "method_descriptor"))(hm:MtR X id r)(ho:PE X o to)
  (hbase:attributeBase o name X.env (eval o X.env)=eval o X.env:=by rfl) (hline:(apos.endLine==cpos.line)=true:=by rfl):PE X (.Call (.Attribute o name apos) [] [] cpos) (ZpP X.K T r to):=by
 intro pins s σ H Q I h;refine wpAny_Call_method0_late hbase hline (thn (ho pins s σ H _ I h) fun v s1 ⟨x,H1,I1,r1,ty,q1⟩=>?_);obtain⟨h1,h2⟩:=ZkE I1 r1 ty;exact⟨T,id,pa,slot,hty,h1,h2,Calls.callWith_builtin rfl (PySem.evalArgs_none (hm pins s1 σ H1 x [] v [] Q I1 r1 .nil q1))⟩
theorem Zax(pa:PlainAttrs T)(slot:Slot T name id)(hty:typeOf (.builtin id)=pure (.type "method_descriptor"))(hm:MtR X id r)(ho:PE X o to)(ha:PA X (e::es) t)
  (hbase:attributeBase o name X.env (eval o X.env)=eval o X.env:=by rfl)
  (hfew:((backTo cpos (starEach (e::es) X.env)).all (fun x=>!x.1)&&(backToKw cpos (keywordEach [] X.env)).all (fun x=>x.1.isSome)
   && decide ((e::es).length+([]:List Keyword).length+(if([]:List Keyword).isEmpty then 0 else 1) < 30))=true:=by rfl)
  (hline:(apos.endLine==cpos.line)=true:=by rfl) (hs:starEach (e::es) X.env=(false,eval e X.env)::starEach es X.env:=by rfl) (hplain:(backTo cpos (starEach es X.env)).any (·.1)=false:=by rfl) :
  PE X (.Call (.Attribute o name apos) (e::es) [] cpos) (tBM X.K T r to t):=by
 intro pins s σ H Q I h;refine wpAny_Call_method_late hbase hfew hline rfl (thn (ho pins s σ H _ I h) fun v s1 ⟨x,H1,I1,r1,ty,q1⟩=>?_);obtain⟨h1,h2⟩:=ZkE I1 r1 ty;refine⟨T,id,pa,slot,hty,h1,h2,?_⟩;have hA:=ha cpos pins s1 σ H1 _ I1 q1;rw[hs] at hA ⊢;refine Calls.callWith_builtin (by show(false||(backTo cpos (starEach es X.env)).any (·.1))=false;rw[hplain]<;>rfl) (Calls.evalArgs_plain ?_);exact thn hA fun us s2 ⟨vs,H2,I2,r2,q2⟩=>hm pins s2 σ H2 x vs v us Q I2 r1 r2 q2
end
end L2
namespace L2
open PySem PySem.Spec PyProof.Rows
def MtM(X:Cx)(id:String)(r:V->List V->Hp->VK->Prop):Prop :=
 ∀(pins:List (Addr×Obj))(s:Shared)(σ:St)(H:Hp)(x:V)(xs:List V)(v:Value)(us:List Value)(Q:VK),Inv X pins σ H s->RelV x v->Zn xs us->r x xs H Q ->
  wpAny (model X.prog X.w) X.A (call (.builtin id) (v::us)) (EP X pins σ Q) X.xe s
theorem Zn.one:∀{x:V}{us:List Value},Zn [x] us->∃u,us=[u]/\RelV x u
 |_,_,.cons r .nil=>⟨_,rfl,r⟩
theorem Zn.zero:∀{us:List Value},Zn [] us->us=[]
 |_,.nil=>rfl
theorem Zn.dropLast{xs:List V}{us:List Value}(h:Zn xs us):Zn xs.dropLast us.dropLast:=by
 induction h with
 |nil=>exact .nil
 |cons r t ih =>
  cases t with
  |nil=>exact .nil
  |cons q t'=>exact .cons r ih
theorem Zn.rep{xs:List V}{us:List Value}(h:Zn xs us):∀k:Nat,Zn (List.replicate k xs).flatten (List.replicate k us).flatten
 |0=>.nil
 |k+1=>by
  rw[List.replicate_succ,List.replicate_succ,List.flatten_cons,List.flatten_cons];exact Zn.append h (Zn.rep h k)
theorem ZpR{α:Type}(l:List α):l.eraseIdx (l.length - 1)=l.dropLast:=by
 induction l with
 |nil=>rfl
 |cons a r ih =>
  cases r with
  |nil=>rfl
  |cons b r =>
   have e:(a::b::r).length - 1=((b::r).length - 1)+1:=by
    have h1:(a::b::r).length=r.length+2:=rfl;have h2:(b::r).length=r.length+1:=rfl;omega
   rw[e,List.eraseIdx_cons_succ,ih];all_goals rfl
theorem foldl_rep(its:List Value):∀(k:Nat)(acc:List Value),
  List.foldl (fun x1 x2=>x1++x2) acc.toArray (List.replicate k its.toArray)=(acc++(List.replicate k its).flatten).toArray
 |0,acc=>by simp
 |k+1,acc=>by
  have e:acc.toArray++its.toArray=(acc++its).toArray:=by simp
  have e2:(acc++its)++(List.replicate k its).flatten=acc++(List.replicate (k+1) its).flatten:=by
   rw[List.replicate_succ,List.flatten_cons,List.append_assoc]
  rw[←e2,←foldl_rep its k (acc++its),←e,List.replicate_succ,List.foldl_cons]
section
variable{X:Cx}{pins:List (Addr×Obj)}{σ:St}{H:Hp}{s:Shared}{l b:Addr}{xs ys zs:List V}
theorem Inv.Zhc{its its':List Value}{n:Nat}{f:Array Value->Array Value}{t':Nat}(I:Inv X pins σ H s)(hH:H l=some (.lst xs))
  (e:s.heap.get? l=some { cls:=.type "list",data:=.seq its.toArray n }) (hf:f its.toArray=its'.toArray) (hv:Zn ys its') (hz:ys.length<=sizeLine) :
  Inv X pins σ (upd H l (.lst ys)) { s with heap:=s.heap.update l (Obj.mapSeq f),toks:=t' }:=by
 have q:=PySem.IsL.update e f;rw[hf] at q;refine I.write (x:=l) (e:=l) (by rw[hH];exact trivial) (.inl rfl) (fun b' u hb hu=>(Heap.get?_update_other s.heap (Obj.mapSeq f) (Ne.symm hb)).trans hu) ⟨_,q⟩ ?_;exact⟨hz,its',_,hv,q⟩
theorem Inv.ZkF{its:List Value}{t':Nat}(I:Inv X pins σ H s)(hv:Zn ys its)(hz:ys.length<=sizeLine) :
  Inv X pins σ (upd H s.heap.objs.size (.lst ys)) { s with heap:=s.heap.push { cls:=.type "list",data:=.seq its.toArray },toks:=t' } :=
 I.laid (fun _ _ q=>Heap.get?_push_of_some _ q) (Nat.le_refl _) ⟨hz,its,0,hv,Heap.get?_push_size _ rfl⟩
theorem Inv.fresh(I:Inv X pins σ H s):H s.heap.objs.size=none:=I.hok.fresh (Nat.le_refl _)
theorem Inv.Zdn(I:Inv X pins σ H s)(hH:H l=some (.lst xs)):xs.length<=sizeLine/\∃(its:List Value)(n:Nat),Zn xs its/\xs.length=its.length/\s.heap.get? l=some { cls:=.type "list",data:=.seq its.toArray n }:=by
 obtain⟨z,its,n,r,e⟩:=I.hok l _ hH;exact⟨z,its,n,r,r.length,e⟩
theorem ZkG{n:Nat}(h:n<=sizeLine):Builtin.List.listTooLong n=false:=by
 unfold Builtin.List.listTooLong;exact decide_eq_false (by omega)
end
section
variable{X:Cx}
inductive ZpS(x:V)(vs:List V)(H:Hp)(Q:VK):Prop
 |mk (l xs y) (_:x=.ref l) (_:vs=[y]) (_:H l=some (.lst xs)) (_:xs.length < sizeLine) (_:Q .non (upd H l (.lst (xs++[y]))))
def ZkH:V->List V->Hp->VK->Prop:=fun x vs H Q=>ZpS x vs H Q
theorem ZaQ:MtM X "list.append" ZkH:=by
 intro pins s σ H x vs v us Q I rx rv h;obtain⟨l,xs,y,rfl,rfl,hH,hz,q⟩:=h;cases rx;obtain⟨u,rfl,ru⟩:=rv.one;obtain⟨z,its,n,r,hl,e⟩:=I.Zdn hH;refine call_meets F.slot_list_append ⟨_,e,rfl⟩ F.entry_list_append (F.args_list_append_2 _ _) (PySem.list_append l its.toArray n u (by rw[List.size_toArray];omega)) ⟨e,?_⟩;refine⟨.non,_,I.Zhc (its':=its++[u]) hH e (by simp) (r.append (.cons ru .nil)) ?_,rfl,q⟩;rw[List.length_append,List.length_singleton];omega
inductive ZpT(x:V)(vs:List V)(H:Hp)(Q:VK):Prop
 |mk (l b xs zs) (_:x=.ref l) (_:vs=[.ref b]) (_:H l=some (.lst xs)) (_:H b=some (.lst zs)) (_:xs.length+zs.length<=sizeLine) (_:Q .non (upd H l (.lst (xs++zs))))
def ZpU:V->List V->Hp->VK->Prop:=fun x vs H Q=>ZpT x vs H Q
theorem Zhd:MtM X "list.extend" ZpU:=by
 intro pins s σ H x vs v us Q I rx rv h;obtain⟨l,b,xs,zs,rfl,rfl,hH,hB,hz,q⟩:=h;cases rx;obtain⟨u,rfl,ru⟩:=rv.one;cases ru;obtain⟨z,its,n,r,hl,e⟩:=I.Zdn hH;obtain⟨z2,its2,n2,r2,hl2,e2⟩:=I.Zdn hB;have hsz:its.toArray.size+its2.toArray.size<=sizeLine:=by rw[List.size_toArray,List.size_toArray];omega
 have hlong:¬(!its.toArray.isEmpty&&Builtin.List.listTooLong (its.toArray.size+its2.toArray.size))=true:=by
  rw[ZkG hsz,Bool.and_false];exact Bool.false_ne_true
 refine call_meets F.slot_list_extend ⟨_,e,rfl⟩ F.entry_list_extend (F.args_list_extend_2 _ _)
  (AutoSeq1.list_extend_list_list_0 l its.toArray n b its2.toArray n2 hlong (by rw[List.size_toArray];omega) (by omega)) ⟨e,e2,?_⟩
 refine⟨.non,_,I.Zhc (its':=its++its2) hH e (by simp) (r.append r2) ?_,rfl,q⟩;rw[List.length_append];omega
inductive ZpV(x:V)(vs:List V)(H:Hp)(Q:VK):Prop
 |mk (l xs y) (_:x=.ref l) (_:vs=[]) (_:H l=some (.lst xs)) (_:xs[xs.length - 1]?=some y) (_:Q y (upd H l (.lst xs.dropLast)))
def ZpW:V->List V->Hp->VK->Prop:=fun x vs H Q=>ZpV x vs H Q
theorem ZpX:MtM X "list.pop" ZpW:=by
 intro pins s σ H x vs v us Q I rx rv h;obtain⟨l,xs,y,rfl,rfl,hH,hy,q⟩:=h;cases rx;have hus:=rv.zero;subst hus;obtain⟨z,its,n,r,hl,e⟩:=I.Zdn hH;obtain⟨u,hu,ru⟩:=r.get hy;have hy':its.toArray[its.toArray.size - 1]?=some u:=by
  show its.toArray[its.length - 1]?=some u;rw[←Array.getElem?_toList,←hl];exact hu
 refine call_meets F.slot_list_pop ⟨_,e,rfl⟩ F.entry_list_pop (F.args_list_pop_1 _) (MeetsSeq.list_pop_last l its.toArray n u hy' (by rw[List.size_toArray];omega)) ⟨e,?_⟩;refine⟨y,_,I.Zhc (its':=its.dropLast) hH e ?_ r.dropLast ?_,ru,q⟩
 ·show its.toArray.eraseIdxIfInBounds (its.toArray.size - 1)=its.dropLast.toArray;rw[List.size_toArray,List.eraseIdxIfInBounds_toArray,ZpR]
 ·rw[List.length_dropLast];omega
inductive ZpY(x y:V)(H:Hp)(Q:VK):Prop
 |mk (l b xs zs) (_:x=.ref l) (_:y=.ref b) (_:H l=some (.lst xs)) (_:H b=some (.lst zs)) (_:xs.length+zs.length<=sizeLine) (_:∀p,H p=none->Q (.ref p) (upd H p (.lst (xs++zs))))
def ZpZ:R2:=fun x y H Q=>ZpY x y H Q
theorem ZdX:OpR X (binaryOp .Add) ZpZ:=by
 intro pins s σ H x y v u Q I rx ry h;obtain⟨l,b,xs,zs,rfl,rfl,hH,hB,hz,q⟩:=h;cases rx;cases ry;obtain⟨z,its,n,r,hl,e⟩:=I.Zdn hH;obtain⟨z2,its2,n2,r2,hl2,e2⟩:=I.Zdn hB;refine PySem.P.add_list e e2 ?_ (by rw[List.size_toArray,List.size_toArray];omega);have ea:its.toArray++its2.toArray=(its++its2).toArray:=by simp
 rw[ea];exact⟨.ref _,_,I.ZkF (t':=s.toks) (r.append r2) (by rw[List.length_append];omega),rfl,q _ I.fresh⟩
inductive Zp0(x y:V)(H:Hp)(Q:VK):Prop
 |mk (l k xs) (_:x=.ref l) (_:y=.int k) (_:H l=some (.lst xs)) (_:-(2 ^ 63)<=k) (_:k < 2 ^ 63) (_:xs.length * k.toNat<=sizeLine) (_:∀p,H p=none->Q (.ref p) (upd H p (.lst (List.replicate k.toNat xs).flatten)))
def Zp1:R2:=fun x y H Q=>Zp0 x y H Q
theorem len_rep{α:Type}(xs:List α)(k:Nat):(List.replicate k xs).flatten.length=k * xs.length:=by
 induction k with
 |zero=>simp
 |succ k ih=>rw[List.replicate_succ,List.flatten_cons,List.length_append,ih,Nat.succ_mul,Nat.add_comm]
theorem Zhe:OpR X (binaryOp .Mult) Zp1:=by
 intro pins s σ H x y v u Q I rx ry h;obtain⟨l,k,xs,rfl,rfl,hH,h1,h2,hz,q⟩:=h;cases rx;obtain⟨t,rfl⟩:=ry;obtain⟨z,its,n,r,hl,e⟩:=I.Zdn hH;have hlen:its.toArray.size * k.toNat<=sizeLine:=by rw[List.size_toArray,←hl];exact hz
 have hcap:¬its.toArray.size * k.toNat > (2 ^ 63 - 1) / 8:=by
  have:(sizeLine:Nat)<=(2 ^ 63 - 1) / 8:=by decide
  omega
 have hfit:¬(!Builtin.List.listFitsIndex k)=true:=by
  rw[fitsIndex_both h1 h2];exact Bool.false_ne_true
 have hlong:¬Builtin.List.listTooLong (its.toArray.size * k.toNat)=true:=by
  rw[ZkG hlen];exact Bool.false_ne_true
 have hnew:List.foldl (fun x1 x2=>x1++x2) #[] (List.replicate (if its.toArray.isEmpty=true then 0 else k.toNat) its.toArray)=(List.replicate k.toNat its).flatten.toArray:=by
  have f0:∀m:Nat,List.foldl (fun x1 x2=>x1++x2) #[] (List.replicate m its.toArray)=(List.replicate m its).flatten.toArray:=fun m=>by
   have:=foldl_rep its m [];rw[List.nil_append] at this;exact this
  rw[f0];cases its with
  |nil=>simp
  |cons a r'=>rw[if_neg (by simp)]
 refine wpAny_binaryOp_repeat_ref (T:="list") (U:="int") (by decide) ⟨_,e,rfl⟩ (fun s'=>typeIs_int s' k t) noFill_list_mul F.fills_int_mul F.slot_int_rmul repeat_list F.slot_int_index.lookup
  (call_meets F.slot_int_rmul (typeIs_int s k t) F.entry_int_rmul (F.args_int_rmul_2 _ _) (int___rmul___int_list k t l its.toArray n)
   ⟨e,rfl,⟨_,e,rfl⟩,call_meets F.slot_list_mul ⟨_,e,rfl⟩ F.entry_list_mul (F.args_list_mul_2 _ _) (AutoListH.list___mul___list_int_3 l its.toArray n k t hfit hcap hlong) ⟨e,?_⟩⟩)
 rw[hnew];exact⟨.ref _,_,I.ZkF (t':=s.toks) (r.rep k.toNat) (by rw[len_rep,Nat.mul_comm];exact hz),rfl,q _ I.fresh⟩
end
section
variable{prog:Program}{w:World}{A:Around}{E:Value->Shared->Prop}{s:Shared}
end
section
variable{X:Cx}
end
end L2
namespace L2
open PySem PySem.Spec PyProof.Rows
theorem Zn.ints:∀{ns:List Int}{us:List Value},Zn (ns.map V.int) us->IntsAre us ns
 |[],us,h=>by
  rw[List.map_nil] at h;cases h;exact IntsAre.nil
 |n::ns,us,h=>by
  rw[List.map_cons] at h;cases h with
  |cons r t =>
   obtain⟨k,rfl⟩:=r;exact IntsAre.cons n k (Zn.ints t)
theorem Zn.ZfA{a:Addr}{us:List Value}(r:Zn [V.ref a] us):us=[Value.ref a]:=by
 cases r with
 |cons r t =>
  cases t;cases r;rfl
section
variable{prog:Program}{w:World}{A:Around}{E:Value->Shared->Prop}{s:Shared}{l:Addr}{its:List Value}{ns:List Int}{Q:Value->Shared->Prop}
theorem Zp2(hh:A.handled=none)(hl:s.heap.IsList l its.toArray)(hi:IntsAre its ns)
  (h:∀h' tk t',(∀b o,s.heap.get? b=some o->h'.get? b=some o)->Q (.int ns.sum t') { s with heap:=h',toks:=tk }):wpAny (model prog w) A (call (.builtin "sum") [.ref l]) Q E s:=by
 obtain⟨xs,e⟩:=hi.allInts.items;have hn:numsOf (intItems xs).toList=ns:=by rw[←e];exact hi.numsOf
 rw[nums_intItems] at hn;rw[e] at hl;refine PySem.sum_intListG hh hl fun h' tk t' hk=>?_;have:=h h' tk t' hk;rw[preSum_eq,List.take_of_length_le (by simp),hn];exact this
theorem Zp3(hh:A.handled=none)(hl:s.heap.IsList l its.toArray)(hi:IntsAre its ns)(hne:0 < ns.length)
  (h:∀h' tk M t',(∀b o,s.heap.get? b=some o->h'.get? b=some o)->M∈ns->(∀a,a∈ns->M<=a)->Q (.int M t') { s with heap:=h',toks:=tk }):wpAny (model prog w) A (call (.builtin "min") [.ref l]) Q E s:=by
 obtain⟨xs,e⟩:=hi.allInts.items;have hn:numsOf (intItems xs).toList=ns:=by rw[←e];exact hi.numsOf
 rw[nums_intItems] at hn;subst hn;rw[e] at hl;have hsz:0 < xs.size:=by simpa using hne
 refine PySem.min_intList hh hl hsz fun v h' tk hv hk=>?_;obtain⟨t,rfl⟩:=intItems_at hv;obtain⟨h1,h2⟩:=argBest_lt (numAt xs) (xs.size - 1);refine h h' tk _ t hk ?_ fun a ha=>?_
 ·rw[numAt_eq];exact PySem.getD_mem (by rw[List.length_map,Array.length_toList];omega)
 ·obtain⟨j,hj,rfl⟩:=mem_getD ha;rw[List.length_map,Array.length_toList] at hj;rw[←numAt_eq];exact h2 j (by omega)
end
section
variable{X:Cx}
def ZkI(K:PySem.W.Frag):List V->Hp->VK->Prop:=fun vs H Q=>∃(a:Addr)(ns:List Int),vs=[V.ref a]/\SqL K H a (ns.map V.int)/\Q (.int ns.sum) H
def Zp4(K:PySem.W.Frag):List V->Hp->VK->Prop:=fun vs H Q=>∃(a:Addr)(ns:List Int),vs=[V.ref a]/\SqL K H a (ns.map V.int)/\0 < ns.length/\∀m,m∈ns->(∀y,y∈ns->m<=y)->Q (.int m) H
theorem ZeI(hc:X.calm=true):ZbQ X (.builtin "sum") (ZkI X.K):=by
 intro pins s σ H vs us Q I r h;obtain⟨a,ns,rfl,hs,q⟩:=h;obtain⟨its,rv,hl,_⟩:=I.list hs;rw[Zn.ZfA r];exact Zp2 (I.ok.hd hc) hl.isList rv.ints fun h' tk t' hk=>⟨.int _,H,I.kept hk,⟨_,rfl⟩,q⟩
theorem Zp5(hc:X.calm=true):ZbQ X (.builtin "min") (Zp4 X.K):=by
 intro pins s σ H vs us Q I r h;obtain⟨a,ns,rfl,hs,hne,q⟩:=h;obtain⟨its,rv,hl,_⟩:=I.list hs;rw[Zn.ZfA r];exact Zp3 (I.ok.hd hc) hl.isList rv.ints hne fun h' tk m t' hk h1 h2=>⟨.int _,H,I.kept hk,⟨_,rfl⟩,q m h1 h2⟩
end
section
variable{X:Cx}
end
section
variable{X:Cx}
end
section
variable{X:Cx}
end
mutual
inductive Dp(K:PySem.W.Frag)(H:Hp):V->PyData->Prop
 |non:Dp K H .non .none
 |bl (b:Bool):Dp K H (.bl b) (.bool b)
 |int (i:Int):Dp K H (.int i) (.int i)
 |str (x:Str):Dp K H (.str x) (.str x)
 |lst {a:Addr} {xs:List V} {ds:List PyData}:SqL K H a xs->Zdo K H xs ds->Dp K H (.ref a) (.list ds)
 |tup {a:Addr} {xs:List V} {ds:List PyData}:SqT K H a xs->Zdo K H xs ds->Dp K H (.ref a) (.tuple ds)
inductive Zdo(K:PySem.W.Frag)(H:Hp):List V->List PyData->Prop
 |nil:Zdo K H [] []
 |cons {v:V} {vs:List V} {d:PyData} {ds:List PyData}:Dp K H v d->Zdo K H vs ds->Zdo K H (v::vs) (d::ds)
end
section
variable{X:Cx}{pins:List (Addr×Obj)}{σ:St}{H:Hp}{s:Shared}
mutual
theorem Dp.reads(I:Inv X pins σ H s):∀(d:PyData)(v:V)(u:Value),Dp X.K H v d->RelV v u->∃as,Reads s.heap u d as
 |.none,_,_,h,r=>by
  cases h;cases r;exact⟨_,Reads.none⟩
 |.bool b,_,_,h,r=>by
  cases h;cases r;exact⟨_,Reads.bool b⟩
 |.int i,_,_,h,r=>by
  cases h;obtain⟨t,rfl⟩:=r;exact⟨_,Reads.int i t⟩
 |.str x,_,_,h,r=>by
  cases h;obtain⟨t,rfl⟩:=r;exact⟨_,Reads.str x t⟩
 |.list ds,_,_,h,r=>by
  cases h with
  |lst hs ha =>
   cases r;obtain⟨its,rv,⟨o,n,ho,hc,_,hd⟩,_⟩:=I.list hs;obtain⟨as,hr⟩:=Dp.readsAll I ds _ its ha rv;exact⟨_,Reads.list ho hc hd hr⟩
 |.tuple ds,_,_,h,r=>by
  cases h with
  |tup hs ha =>
   cases r;obtain⟨its,rv,⟨o,ho,hc,n,hd⟩,_⟩:=I.tuple hs;obtain⟨as,hr⟩:=Dp.readsAll I ds _ its ha rv;exact⟨_,Reads.tuple ho hc hd hr⟩
 |.dict _,_,_,h,_=>by cases h
theorem Dp.readsAll(I:Inv X pins σ H s):∀(ds:List PyData)(vs:List V)(us:List Value),Zdo X.K H vs ds->Zn vs us->∃as,ReadsAll s.heap us ds as
 |[],_,_,h,r=>by
  cases h;cases r;exact⟨_,ReadsAll.nil⟩
 |d::ds,_,_,h,r=>by
  cases h with
  |cons h1 h2 =>
   cases r with
   |cons r1 r2 =>
    obtain⟨as,q1⟩:=Dp.reads I d _ _ h1 r1;obtain⟨bs,q2⟩:=Dp.readsAll I ds _ _ h2 r2;exact⟨_,ReadsAll.cons q1 q2⟩
end
end
section
variable{X:Cx}
def ZkJ(K:PySem.W.Frag):R2:=fun x y H Q=>∃d e,Dp K H x d/\Dp K H y e/\SeqAt.shaped d=true/\SeqAt.shaped e=true/\Q (.bl (PyData.eqv d e)) H
def Zp6(K:PySem.W.Frag):R2:=fun x y H Q=>∃d e,Dp K H x d/\Dp K H y e/\SeqAt.shaped d=true/\SeqAt.shaped e=true/\Q (.bl (!PyData.eqv d e)) H
theorem Zp7(hu:X.A.units+64 < cLine):OpR X (compareOp .Eq) (ZkJ X.K):=by
 intro pins s σ H x y v u Q I rx ry h;obtain⟨d,e,hd,he,sd,se,q⟩:=h;obtain⟨as,r1⟩:=Dp.reads I d x v hd rx;obtain⟨bs,r2⟩:=Dp.reads I e y u he ry;exact SeqAt.compareEq_shaped r1 r2 sd se hu ⟨.bl _,H,I,rfl,q⟩
theorem Zp8(hu:X.A.units+64 < cLine):OpR X (compareOp .NotEq) (Zp6 X.K):=by
 intro pins s σ H x y v u Q I rx ry h;obtain⟨d,e,hd,he,sd,se,q⟩:=h;obtain⟨as,r1⟩:=Dp.reads I d x v hd rx;obtain⟨bs,r2⟩:=Dp.reads I e y u he ry;exact SeqAt.compareNe_shaped r1 r2 sd se hu ⟨.bl _,H,I,rfl,q⟩
end
end L2
namespace L2
open PySem PySem.Spec PyProof.Rows
abbrev ZkK(h:Heap)(c:Addr)(v:Option Value):Prop:=h.IsCell c v
def Zp9(scope sc:Scope):Scope :=
 { scope with names:=scope.names.map fun(n,k)=>if(k==.free&&sc.kind==.function&&sc.names.lookup n==some .cell) then(n,.cell) else(n,k) }
def ZaI(cells:List (Str×Addr)):List (Str×NameKind)->List (Str×Addr)->List (Str×Addr)
 |[],acc=>acc
 |(n,k)::r,acc=>if k==.free then ZaI cells r ((n,(cells.lookup n).getD 0)::acc) else ZaI cells r acc
theorem ZkL(env:Env)(f:Str×NameKind->List (Str×Addr)->Sem (ForInStep (List (Str×Addr))))
  (hf:∀n k c,f (n,k) c=if k==.free then(do let a ←cellOf env n;pure (.yield ((n,a)::c))) else pure (.yield c)) :
  ∀(names:List (Str×NameKind))(acc:List (Str×Addr)),(∀y∈names,y.2=.free->∃c,env.cells.lookup y.1=some c)->forIn names acc f=pure (ZaI env.cells names acc)
 |[],acc,_=>by rw[List.forIn_nil];rfl
 |(n,k)::r,acc,h=>by
  rw[List.forIn_cons,hf];have ih:=fun acc=>ZkL env f hf r acc fun y hy=>h y (List.mem_cons_of_mem _ hy);unfold ZaI;by_cases hk:(k==NameKind.free)=true
  ·rw[if_pos hk,if_pos hk];obtain⟨c,hc⟩:=h (n,k) List.mem_cons_self (by simpa using hk);have e:cellOf env n=pure c:=by unfold cellOf;rw[hc]
   rw[e];have e2:(env.cells.lookup n).getD 0=c:=by rw[hc];rfl
   rw[e2];exact ih _
  ·rw[if_neg hk,if_neg hk];exact ih _
theorem Zqa{scope:Scope}{env:Env}(h:∀y∈scope.names,y.2=.free->∃c,env.cells.lookup y.1=some c):closureFor scope env=pure (ZaI env.cells scope.names []):=by
 simp only[closureFor];rw[ZkL env _ (fun n k c=>rfl) scope.names [] h];rfl
theorem mem_lookup{α:Type}:∀{l:List (Str×α)}{n:Str}{c:α},(n,c)∈l->∃c',l.lookup n=some c'
 |(k,v)::r,n,c,h=>by
  rw[List.lookup_cons];cases hb:n==k with
  |true=>exact⟨_,rfl⟩
  |false =>
   rcases List.mem_cons.mp h with e|h
   ·cases e;simp at hb
   ·exact mem_lookup h
theorem ZfB{cells:List (Str×Addr)}:∀{names:List (Str×NameKind)}{acc:List (Str×Addr)}{n:Str}{c:Addr},(n,c)∈ZaI cells names acc->(n,c)∈acc\/((n,.free)∈names/\c=(cells.lookup n).getD 0)
 |[],_,_,_,h=>.inl h
 |(m,k)::r,acc,n,c,h=>by
  unfold ZaI at h;split at h
  ·rename_i hk;have hk:k=.free:=by simpa using hk
   rcases ZfB h with h|⟨h1,h2⟩
   ·rcases List.mem_cons.mp h with e|h
    ·cases e;exact .inr ⟨hk▸List.mem_cons_self,rfl⟩
    ·exact .inl h
   ·exact .inr ⟨List.mem_cons_of_mem _ h1,h2⟩
  ·rcases ZfB h with h|⟨h1,h2⟩
   ·exact .inl h
   ·exact .inr ⟨List.mem_cons_of_mem _ h1,h2⟩
theorem Zhf{cells:List (Str×Addr)}:∀{names:List (Str×NameKind)}{acc:List (Str×Addr)}{p:Str×Addr},p∈acc->p∈ZaI cells names acc
 |[],_,_,h=>h
 |(m,k)::r,acc,p,h=>by
  unfold ZaI;split
  ·exact Zhf (List.mem_cons_of_mem _ h)
  ·exact Zhf h
theorem Zhg{cells:List (Str×Addr)}:∀{names:List (Str×NameKind)}{acc:List (Str×Addr)}{n:Str},(n,.free)∈names->(n,(cells.lookup n).getD 0)∈ZaI cells names acc
 |(m,k)::r,acc,n,h=>by
  unfold ZaI;rcases List.mem_cons.mp h with e|h
  ·cases e;exact Zhf List.mem_cons_self
  ·split
   ·exact Zhg h
   ·exact Zhg h
theorem ZeJ:∀{names:List (Str×NameKind)}{h:Heap}{acc:List (Str×Addr)}{x:Str}{c:Addr},(x,c)∈cellsFrom h.objs.size names acc ->
  (x,c)∈acc\/((x,.cell)∈names/\h.objs.size<=c/\ZkK (pushCells h names) c none)
 |[],_,_,_,_,h=>.inl h
 |(n,k)::r,h,acc,x,c,hm=>by
  unfold cellsFrom at hm;unfold pushCells;split at hm
  ·rename_i hk;rw[if_pos hk];have hk:k=.cell:=by simpa using hk
   rw[←Heap.size_push h { cls:=.type "cell",data:=.cell none }] at hm;rcases ZeJ hm with hm|⟨h1,h2,h3⟩
   ·rcases List.mem_cons.mp hm with e|hm
    ·cases e;exact .inr ⟨hk▸List.mem_cons_self,Nat.le_refl _,_,pushCells_keeps r _ _ _ (Heap.get?_push_size _ rfl),rfl⟩
    ·exact .inl hm
   ·rw[Heap.size_push] at h2;exact .inr ⟨List.mem_cons_of_mem _ h1,Nat.le_of_succ_le h2,h3⟩
  ·rename_i hk;rw[if_neg hk];rcases ZeJ hm with hm|⟨h1,h2,h3⟩
   ·exact .inl hm
   ·exact .inr ⟨List.mem_cons_of_mem _ h1,h2,h3⟩
theorem ZfC:∀{names:List (Str×NameKind)}{n:Nat}{acc:List (Str×Addr)}{p:Str×Addr},p∈acc->p∈cellsFrom n names acc
 |[],_,_,_,h=>h
 |(m,k)::r,n,acc,p,h=>by
  unfold cellsFrom;split
  ·exact ZfC (List.mem_cons_of_mem _ h)
  ·exact ZfC h
theorem Zhh:∀{names:List (Str×NameKind)}{n:Nat}{acc:List (Str×Addr)}{x:Str},(x,.cell)∈names->∃c,(x,c)∈cellsFrom n names acc
 |(m,k)::r,n,acc,x,h=>by
  unfold cellsFrom;rcases List.mem_cons.mp h with e|h
  ·cases e;exact⟨n,ZfC List.mem_cons_self⟩
  ·split
   ·exact Zhh h
   ·exact Zhh h
theorem Zhi:∀{names:List (Str×NameKind)}{h:Heap}{acc:List (Str×Addr)}{x y:Str}{c:Addr},(∀p∈acc,p.2 < h.objs.size)->(∀x y c,(x,c)∈acc->(y,c)∈acc->x=y) ->
  (x,c)∈cellsFrom h.objs.size names acc->(y,c)∈cellsFrom h.objs.size names acc->x=y
 |[],_,_,_,_,_,_,hi,h1,h2=>hi _ _ _ h1 h2
 |(n,k)::r,h,acc,x,y,c,hl,hi,h1,h2=>by
  unfold cellsFrom at h1 h2;split at h1
  ·rename_i hk;rw[if_pos hk] at h2;rw[←Heap.size_push h { cls:=.type "cell",data:=.cell none }] at h1 h2;refine Zhi (h:=h.push _) (fun p hp=>?_) (fun x y c a b=>?_) h1 h2
   ·rw[Heap.size_push];rcases List.mem_cons.mp hp with rfl|hp
    ·exact Nat.lt_succ_self _
    ·exact Nat.lt_succ_of_lt (hl p hp)
   ·rcases List.mem_cons.mp a with e|a<;>rcases List.mem_cons.mp b with e'|b
    ·cases e;cases e';rfl
    ·cases e;exact absurd (hl _ b) (Nat.lt_irrefl _)
    ·cases e';exact absurd (hl _ a) (Nat.lt_irrefl _)
    ·exact hi _ _ _ a b
  ·rename_i hk;rw[if_neg hk] at h2;exact Zhi hl hi h1 h2
theorem Zqb{M:Model}{A:Around}{E:Value->Shared->Prop}{s:Shared}{scope:Scope}{globals:Addr}{closure:List (Str×Addr)}{qual:Str}{func:Option Addr}{code:Value}{around:Env}{builtins:Addr}{Q:Env->Shared->Prop}
  (h:Q (newEnv scope s.heap.objs.size globals (cellsFrom (s.heap.objs.size+1) scope.names closure) qual func code (some around) builtins)
   { s with heap:=pushCells (s.heap.push { cls:=.type "dict",data:=.dict #[] }) scope.names }) :
  wpAny M A (newFunctionEnv scope globals closure [] qual func code (some around) builtins) Q E s:=by
 simp only[newFunctionEnv,Option.isSome_some,if_true];refine wpAny_bind (wpAny_alloc ?_);refine wpAny_bind (wpAny_layCells _ (fun n k c=>rfl) scope.names closure _ _ ?_);rw[show({ s with heap:=s.heap.push { cls:=.type "dict",data:=.dict #[] } }:Shared).heap.objs.size=s.heap.objs.size+1 from Heap.size_push ..];rw[List.forIn_nil];exact wpAny_bind (wpAny_pure (wpAny_pure h))
theorem Zhj{sc:Scope}:∀{names:List (Str×NameKind)}{x:Str}{k:NameKind},
  (names.map fun(n,k)=>if(k==NameKind.free&&sc.kind==.function&&sc.names.lookup n==some .cell) then(n,NameKind.cell) else(n,k)).lookup x=some k ->
  ∃k',names.lookup x=some k'/\(k=k'\/(k'=.free/\k=.cell))
 |[],_,_,h=>by simp at h
 |(n,k₀)::r,x,k,h=>by
  have ih:=@Zhj sc r x k;have h':List.lookup x ((if(k₀==NameKind.free&&sc.kind==.function&&sc.names.lookup n==some .cell)=true then(n,NameKind.cell) else(n,k₀))::(r.map _))=some k:=h;cases hx:x==n with
  |true =>
   simp only[List.lookup_cons,hx];by_cases hc:(k₀==NameKind.free&&sc.kind==.function&&sc.names.lookup n==some .cell)=true
   ·rw[if_pos hc] at h';simp only[List.lookup_cons,hx] at h';cases h';simp only[Bool.and_eq_true,beq_iff_eq] at hc;exact⟨k₀,rfl,.inr ⟨hc.1.1,rfl⟩⟩
   ·rw[if_neg hc] at h';simp only[List.lookup_cons,hx] at h';cases h';exact⟨_,rfl,.inl rfl⟩
  |false =>
   simp only[List.lookup_cons,hx];by_cases hc:(k₀==NameKind.free&&sc.kind==.function&&sc.names.lookup n==some .cell)=true
   ·rw[if_pos hc] at h';simp only[List.lookup_cons,hx] at h';exact ih h'
   ·rw[if_neg hc] at h';simp only[List.lookup_cons,hx] at h';exact ih h'
structure ZaT(N:List Str)(sc scope:Scope)(own:List (Str×Nat)):Prop where
 kind:scope.kind=.function
 uniq:∀y∈scope.names,scope.names.lookup y.1=some y.2
 ix:∀p∈own,N[p.2]?=some p.1
 free:∀y∈scope.names,y.2=.free->sc.names.lookup y.1=some .cell\/sc.names.lookup y.1=some .free
 own:∀y∈scope.names,y.2=.local\/y.2=.cell->y.1∈own.map (·.1)\/y.1∉N
def wipe(σ:St):List Nat->St
 |[]=>σ
 |v::vs=>(wipe σ vs).set v none
theorem Zhk(σ:St):∀vs:List Nat,(wipe σ vs).length=σ.length
 |[]=>rfl
 |v::vs=>by unfold wipe;rw[List.length_set,Zhk σ vs]
theorem Zhl{σ:St}{i:Nat}{x:V}:∀{vs:List Nat},(wipe σ vs)[i]?=some (some x)->σ[i]?=some (some x)/\i∉vs
 |[],h=>⟨h,by simp⟩
 |v::vs,h=>by
  unfold wipe at h;by_cases hi:v=i
  ·subst hi;by_cases hv:v < (wipe σ vs).length
   ·rw[List.getElem?_set_self hv] at h;cases h
   ·rw[List.getElem?_eq_none (by simpa using hv)] at h;cases h
  ·rw[List.getElem?_set_ne hi] at h;obtain⟨h1,h2⟩:=Zhl h;exact⟨h1,by simp only[List.mem_cons,not_or];exact⟨fun e=>hi e.symm,h2⟩⟩
abbrev Cx.blk(X:Cx)(s:Shared)(H:Hp)(scope:Scope)(cenv:Env)(fp:List Addr):Cx:={ X with s_0:=s,H_0:=H,env:=cenv,outer:=X.stack,ex:=fp,fn:=fun x=>scope.names.lookup x==some .cell,pn:=[],xe:=fun _ _=>False }
section
variable{X:Cx}{pins:List (Addr×Obj)}{σ:St}{H:Hp}{s:Shared}
theorem Zqc{scope:Scope}{own:List (Str×Nat)}{fp:List Addr}(I:Inv X pins σ H s)(ok:ZaT X.N X.env.scope scope own)(hN:X.N.Nodup)(hfp:∀b∈fp,ZbC X pins H b/\b < s.heap.objs.size) :
  Inv (X.blk s H scope (compEnvC scope (cellsFrom (s.heap.objs.size+1) scope.names (ZaI X.env.cells scope.names [])) s.heap.objs.size X.env) fp) [] (wipe σ (own.map (·.2))) H { s with heap:=pushCells (s.heap.push { cls:=.type "dict",data:=.dict #[] }) scope.names }:=by
 have hfree:∀y∈scope.names,y.2=.free->∃c,X.env.cells.lookup y.1=some c:=fun y hy e=>by
  rcases ok.free y hy e with k|k
  ·exact I.ok.has _ (.inl k)
  ·exact I.ok.has _ (.inr k)
 generalize hcenv:compEnvC scope (cellsFrom (s.heap.objs.size+1) scope.names (ZaI X.env.cells scope.names [])) s.heap.objs.size X.env=cenv;have kp:∀b o,s.heap.get? b=some o->(pushCells (s.heap.push { cls:=.type "dict",data:=.dict #[] }) scope.names).get? b=some o:=fun b o e=>pushCells_keeps _ _ _ _ (Heap.get?_push_of_some _ e);have hL:cenv.locals=s.heap.objs.size:=by rw[←hcenv];rfl
 have hcl:cenv.cells=cellsFrom (s.heap.objs.size+1) scope.names (ZaI X.env.cells scope.names []):=by rw[←hcenv];rfl
 have hsc:cenv.scope=Zp9 scope X.env.scope:=by rw[←hcenv];rfl
 rw[←Heap.size_push s.heap { cls:=.type "dict",data:=.dict #[] }] at hcl;have cm:∀{y c},(y,c)∈ZaI X.env.cells scope.names []->X.env.cells.lookup y=some c/\c < s.heap.objs.size:=fun{y c} hm=>by
  rcases ZfB hm with hm|⟨h1,rfl⟩
  ·cases hm
  ·obtain⟨c,hc⟩:=hfree _ h1 rfl;rw[hc];obtain⟨w,z⟩:=I.cell _ _ hc;exact⟨rfl,z.lt⟩
 have mem:∀{y c},cenv.cells.lookup y=some c->(X.env.cells.lookup y=some c/\c < s.heap.objs.size)\/(s.heap.objs.size+1<=c/\ZkK (pushCells (s.heap.push { cls:=.type "dict",data:=.dict #[] }) scope.names) c none):=fun{y c} e=>by
  rw[hcl] at e;rcases ZeJ (PySem.mem_of_lookup e) with hm|⟨_,h2,h3⟩
  ·exact .inl (cm hm)
  ·rw[Heap.size_push] at h2;exact .inr ⟨h2,h3⟩
 have look:∀{y},scope.names.lookup y=some .free->∃c,cenv.cells.lookup y=some c/\X.env.cells.lookup y=some c:=fun{y} hl=>by
  have hy:(y,NameKind.free)∈scope.names:=PySem.mem_of_lookup hl;obtain⟨c',e'⟩:=mem_lookup (ZfC (names:=scope.names) (n:=(s.heap.push { cls:=.type "dict",data:=.dict #[] }).objs.size) (Zhg (cells:=X.env.cells) (acc:=[]) hy));rw[←hcl] at e';refine⟨c',e',?_⟩;rw[hcl] at e';rcases ZeJ (PySem.mem_of_lookup e') with hm|⟨h1,_,_⟩
  ·exact(cm hm).1
  ·have:=ok.uniq _ h1;rw[hl] at this;cases this
 have okB:(X.blk s H scope cenv fp).Ok:=by
  refine⟨I.ok.mod,by show cenv.scope.kind=_;rw[hsc];exact ok.kind,by show cenv.globals=_;rw[←hcenv];exact I.ok.glob,by show cenv.builtins=_;rw[←hcenv];exact I.ok.blt,by show s.heap.objs.size<=cenv.locals;rw[hL];exact Nat.le_refl _,
   fun y z c e1 e2=>?_,fun y hy=>?_,fun y c z e=>?_,I.ok.hd,I.ok.frames,.inl rfl,fun b hb=>⟨?_,fun y c e z=>?_⟩,I.bs,Nat.le_trans I.ok.bsz I.sz,fun b o e hb=>?_,fun b hb z=>?_,I.stack,I.ZgS⟩
  ·have e1:cenv.cells.lookup y=some c:=e1;have e2:cenv.cells.lookup z=some c:=e2;rw[hcl] at e1 e2;refine Zhi (fun p hp=>?_) (fun y z c a b=>I.ok.inj y z c (cm a).1 (cm b).1) (PySem.mem_of_lookup e1) (PySem.mem_of_lookup e2);rw[Heap.size_push];exact Nat.lt_succ_of_lt (cm (y:=p.1) (c:=p.2) hp).2
  ·show∃c,cenv.cells.lookup y=some c;have key:∀k,cenv.kindOf y=some k->(k=.cell\/k=.free)->∃c,cenv.cells.lookup y=some c:=fun k hk hk'=>by
    unfold Env.kindOf at hk;rw[hsc] at hk;obtain⟨k',e,r⟩:=Zhj hk;have:k'=.cell\/k'=.free:=by
     rcases r with rfl|⟨rfl,_⟩
     ·exact hk'
     ·exact .inr rfl
    rcases this with rfl|rfl
    ·obtain⟨c,hm⟩:=Zhh (n:=(s.heap.push { cls:=.type "dict",data:=.dict #[] }).objs.size) (acc:=ZaI X.env.cells scope.names []) (PySem.mem_of_lookup e);obtain⟨c',e'⟩:=mem_lookup hm;exact⟨c',by rw[hcl];exact e'⟩
    ·obtain⟨c,h1,_⟩:=look e;exact⟨c,h1⟩
   rcases hy with hy|hy
   ·exact key _ hy (.inl rfl)
   ·exact key _ hy (.inr rfl)
  ·have z:(scope.names.lookup y==some NameKind.cell)=true:=z;have z:scope.names.lookup y=some .cell:=by simpa using z
   have e:cenv.cells.lookup y=some c:=e;rw[hcl] at e;rcases ZeJ (PySem.mem_of_lookup e) with hm|⟨_,h2,_⟩
   ·rcases ZfB hm with hm|⟨h1,_⟩
    ·cases hm
    ·have q:=ok.uniq _ h1;rw[z] at q;cases q
   ·rw[Heap.size_push] at h2;exact Nat.le_of_succ_le h2
  ·show b≠cenv.locals;rw[hL];exact Nat.ne_of_lt (hfp b hb).2
  ·have e:cenv.cells.lookup y=some c:=e;rcases mem e with⟨h1,_⟩|⟨h1,_⟩
   ·exact(hfp b hb).1.2.2.2.2.1 y c h1 z
   ·have h2:s.heap.objs.size+1<=b:=by rw[←z];exact h1
    exact absurd (Nat.lt_of_lt_of_le (hfp b hb).2 (Nat.le_of_succ_le h2)) (Nat.lt_irrefl _)
  ·rcases(hfp b hb).1.2.2.2.1 with z|z
   ·exact I.ok.Zdb b o e z
   ·exact absurd (Nat.lt_of_lt_of_le (Heap.lt_size e) (Nat.le_trans I.ok.bsz z)) (Nat.lt_irrefl _)
  ·rcases List.mem_cons.mp (I.Zez b z) with z|z
   ·exact(hfp b hb).1.2.1 z
   ·exact(hfp b hb).1.2.2.1 z
 refine⟨okB,rfl,I.bare,Un.kept kp,⟨fun _=>none,?_,fun i y av e1 e2 e3=>?_⟩,fun y c e=>?_,?_,fun y c e=>?_,fun p hp=>?_,I.hok.kept kp,by rw[Zhk];exact I.len⟩
 ·show Heap.Ns _ cenv.locals _;rw[hL];exact Heap.Ns.keeps (Heap.Ns.new ..) fun b o e=>pushCells_keeps _ _ _ _ e
 ·obtain⟨e2,hne⟩:=Zhl e2;have hfr:scope.names.lookup y=some .free/\(cenv.kindOf y=some .cell\/cenv.kindOf y=some .free):=by
   have key:∀k,cenv.scope.names.lookup y=some k->k=.local\/k=.cell\/k=.free->scope.names.lookup y=some .free/\(cenv.kindOf y=some .cell\/cenv.kindOf y=some .free):=fun k hk hk'=>by
    have hk0:=hk;rw[hsc] at hk;obtain⟨k',e,r⟩:=Zhj hk;have no:¬(k'=.local\/k'=.cell):=fun hh=>by
     rcases ok.own _ (PySem.mem_of_lookup e) hh with e'|e'
     ·obtain⟨p,hp,hpy⟩:=List.mem_map.mp e';have e3:=ok.ix p hp;have:p.1=y:=hpy;rw[this] at e3;exact hne (List.mem_map.mpr ⟨p,hp,ZgT hN e3 e1⟩)
     ·exact e' (List.mem_of_getElem? e1)
    rcases r with rfl|⟨rfl,rfl⟩
    ·rcases hk' with rfl|rfl|rfl
     ·exact absurd (.inl rfl) no
     ·exact absurd (.inr rfl) no
     ·exact⟨e,.inr hk0⟩
    ·exact⟨e,.inl hk0⟩
   have e3:Vis cenv.scope y:=e3;rcases e3 with e3|e3|e3
   ·exact key _ e3 (.inl rfl)
   ·exact key _ e3 (.inr (.inl rfl))
   ·exact key _ e3 (.inr (.inr rfl))
  obtain⟨m,hn,hl⟩:=I.loc;have hvis:Vis X.env.scope y:=(ok.free _ (PySem.mem_of_lookup hfr.1) rfl).elim (fun k=>.inr (.inl k)) (fun k=>.inr (.inr k));obtain⟨w,r,q⟩:=hl i y av e1 e2 hvis;refine⟨w,r,.inr ⟨hfr.2,?_⟩⟩;obtain⟨c,h1,h2⟩:=look hfr.1;rcases q with⟨k,_⟩|⟨_,c',e',z⟩
  ·have k:X.env.scope.names.lookup y=some .local:=k;rcases ok.free _ (PySem.mem_of_lookup hfr.1) rfl with k'|k'<;>rw[show X.env.scope.names.lookup y=_ from k'] at k<;>cases k
  ·rw[h2] at e';cases e';exact⟨c,h1,z.keeps kp⟩
 ·have e:cenv.cells.lookup y=some c:=e;rcases mem e with⟨h1,_⟩|⟨_,z⟩
  ·obtain⟨w,z⟩:=I.cell y c h1;exact⟨w,z.keeps kp⟩
  ·exact⟨_,z⟩
 ·show H cenv.locals=none;rw[hL];exact I.hok.fresh (Nat.le_refl _)
 ·have e:cenv.cells.lookup y=some c:=e;rcases mem e with⟨h1,_⟩|⟨h1,_⟩
  ·exact I.Za0 y c h1
  ·exact I.hok.fresh (Nat.le_of_succ_le h1)
 ·exact absurd (show p∈([]:List (Addr×Obj))++[] from hp) (by simp)
theorem Zqd{E:Value->Shared->Prop}{D:Addr}{xs:List V}{y:V}{v:Value}{Q:Value->Shared->Prop}(I:Inv X pins σ H s)(hD:H D=some (.lst xs))(hz:xs.length < sizeLine)(r:RelV y v)
  (h:∀s',Inv X pins σ (upd H D (.lst (xs++[y]))) s'->Q .none s'):wpAny (model X.prog X.w) X.A (call (.builtin "list.append") [.ref D,v]) Q E s:=by
 obtain⟨hz',its,n,ri,e⟩:=I.hok D _ hD;have hl:=ri.length;refine append_at (hsz:=by rw[List.size_toArray];omega) e fun h' sb ho'=>?_;refine h { s with heap:=h' } (I.write (t':=s.toks) (by rw[hD];trivial) (.inl rfl) (fun b u hb q=>(sb.2 b hb).trans q) ⟨_,ho'⟩ ⟨by rw[List.length_append];exact hz,its++[v],n+1,ri.append (.cons r .nil),?_⟩);rw[ho'];simp
def PTs(X:Cx)(ifs:List Expr)(t:TT):Prop :=
 ∀(pins:List (Addr×Obj))(s:Shared)(σ:St)(H:Hp)(Q:Bool->Hp->Prop),Inv X pins σ H s->t σ H Q ->
  wpAny (model X.prog X.w) X.A (forIn ifs true fun c r=>if r=true then do let ok ←isTrue c X.env (eval c X.env);pure (ForInStep.yield ok) else pure (ForInStep.yield r)) (TP X pins σ Q) X.xe s
def ZaU:TT:=fun _ H Q=>Q true H
theorem Zb9:PTs X [] ZaU:=fun _ _ _ H _ I h=>wpAny_tests_nil ⟨H,I,h⟩
theorem ZeK{c:Expr}{t:TT}(h:PT X c t):PTs X [c] t:=fun pins s σ H Q I hw=>wpAny_tests_one (h pins s σ H Q I hw)
end
theorem ZdY{α:Type}{t:Sem α}{Q Q':α->Shared->Prop}{M:Model}{A:Around}{E:Value->Shared->Prop}{s:Shared}(h:wpAny M A t Q (fun _ _=>False) s)(hQ:∀a s,Q a s->Q' a s):wpAny M A t Q' E s:=wpAny_mono h hQ fun _ _ z=>False.elim z
theorem Zqe{prog:Program}{w:World}{A:Around}{R:Result->Shared->Prop}{s:Shared}{elt target iter:Expr}{ifs:List Expr}{scope:Scope}{pos:Pos}{it acc:Value}{env:Env}(I:Nat->Shared->Prop)
  (turn:∀n s,I n s->wpAny (model prog w) A (pyNext it) (fun r s₁=>match r with
   |none=>R (.ok .next) s₁
   |some v=>wpAny (model prog w) A (letOwnedTupleGo target it v) (fun _ s₁'=>wpAny (model prog w) A (assign target env v) (fun _ s₂ =>
     wpAny (model prog w) A (forIn ifs true fun c r=>if r=true then do let ok ←isTrue c env (eval c env);pure (ForInStep.yield ok) else pure (ForInStep.yield r)) (fun ok s₃ =>
      if ok=true then wpAny (model prog w) A (eval elt env) (fun x s₄ =>
       wpAny (model prog w) A (call (.builtin "list.append") [acc,x]) (fun _ s₅=>∃m,m < n/\I m s₅) (notedBy (model prog w) A env fun e s'=>R (.error e) s') s₄) (notedBy (model prog w) A env fun e s'=>R (.error e) s') s₃
      else∃m,m < n/\I m s₃) (notedBy (model prog w) A env fun e s'=>R (.error e) s') s₂) (notedBy (model prog w) A env fun e s'=>R (.error e) s') s₁') (notedBy (model prog w) A env fun e s'=>R (.error e) s') s₁) (notedBy (model prog w) A env fun e s'=>R (.error e) s') s)
  (n:Nat) (h:I n s) :
  codeAny (model prog w) A (.compLoop (.ListComp elt [⟨target,iter,ifs,0⟩] scope pos) 0 it acc env) R s:=by
 refine codeAny_loop rfl I (fun n s hI=>?_) n h;show wpAny _ A ((compTurn (.ListComp elt [⟨target,iter,ifs,0⟩] scope pos) 0 it acc env).onRaise (fun x=>do noteFrame x env;theTreesLotGoes x)) _ _ s;refine wpAny_noted ?_;rw[compTurn_list];refine wpAny_bind (wpAny_standAt (wpAny_bind (wpAny_mono (turn n s hI) (fun r s₁ h₁=>?_) fun _ _ h'=>h')));cases r with
 |none=>exact wpAny_pure h₁
 |some v =>
  refine wpAny_bind (wpAny_mono h₁ (fun _ s₁' h₁'=>?_) fun _ _ h'=>h');refine wpAny_bind (wpAny_mono h₁' (fun _ s₂ h₂=>wpAny_bind (wpAny_mono h₂ (fun ok s₃ h₃=>?_) fun _ _ h'=>h')) fun _ _ h'=>h');cases ok with
  |false=>exact wpAny_pure ⟨rfl,h₃⟩
  |true =>
   exact wpAny_bind (wpAny_bind (wpAny_mono h₃ (fun x s₄ h₄=>wpAny_bind (wpAny_mono h₄ (fun _ s₅ h₅=>wpAny_pure (wpAny_pure ⟨rfl,h₅⟩)) fun _ _ h'=>h')) fun _ _ h'=>h'))
section
variable{X:Cx}
def tLc(wi:TI)(g:TG)(tt:TT)(te:TE)(vs:List Nat):TE:=fun σ H Q=>wi σ H fun J H1=>∀D,H1 D=none->∃W:Nat->Nat->Hp->Prop,(∃m,W 0 m (upd H1 D (.lst [])))/\∀i m H,W i m H ->
 (J.stop i H/\Q (.ref D) H)\/(J.go i H/\∃Nx:Hp->Prop,(∀H',Nx H'->∃m',m' < m/\W (i+1) m' H')/\∀x H',J.yld i H x H'->g x (wipe σ vs) H' fun σ2 H2=>wipe σ2 vs=wipe σ vs/\tt σ2 H2 fun b H3 =>
  if b=true then te σ2 H3 fun y H4=>∃acc,H4 D=some (.lst acc)/\acc.length < sizeLine/\Nx (upd H4 D (.lst (acc++[y]))) else Nx H3)
theorem ZkM{pins:List (Addr×Obj)}{s:Shared}{σ:St}{H:Hp}{Q:VK}{elt tg iter:Expr}{ifs:List Expr}{scope:Scope}{own:List (Str×Nat)}{pos pos':Pos}{wi:TI}{g:TG}{tt:TT}{te:TE}{use:Option (Value->Sem Unit)}{Qf:Value->Shared->Prop}
  (hc:X.calm=true) (hN:X.N.Nodup) (I:Inv X pins σ H s) (hi:PI X tg iter wi) (ok:ZaT X.N X.env.scope scope own)
  (hg:∀(s:Shared)(H:Hp)(C:Addr)(cl:List (Str×Addr))(fp:List Addr),PG (X.blk s H scope (compEnvC scope cl C X.env) fp) tg g) (ht:∀(s:Shared)(H:Hp)(C:Addr)(cl:List (Str×Addr))(fp:List Addr),PTs (X.blk s H scope (compEnvC scope cl C X.env) fp) ifs tt)
  (he:∀(s:Shared)(H:Hp)(C:Addr)(cl:List (Str×Addr))(fp:List Addr),PE (X.blk s H scope (compEnvC scope cl C X.env) fp) elt te) (hs:∀x,foldedSetIterable iter X.env x=pure x)
  (h:tLc wi g tt te (own.map (·.2)) σ H Q)
  (hRR:∀D C s' m H',Inv X pins σ H' s'->Q (.ref D) H'->s'.heap.Ns C m->ZbC X pins H' C->compPost (model X.prog X.w) X.A X.xe use Qf (.ref D) C (.ok .next) s') :
  wpAny (model X.prog X.w) X.A (comprehension (.ListComp elt [⟨tg,iter,ifs,0⟩] scope pos) scope X.env pos' (newList []) false (eval iter X.env) use) Qf X.xe s:=by
 have hfree:∀y∈scope.names,y.2=.free->∃c,X.env.cells.lookup y.1=some c:=fun y hy e=>by
  rcases ok.free y hy e with k|k
  ·exact I.ok.has _ (.inl k)
  ·exact I.ok.has _ (.inr k)
 refine wpAny_comprehension_free (use:=use) rfl hs (Zqa hfree) ok.kind (fun y hy e=>by rw[ok.uniq y hy,e])
  (thn (hi pins s σ H _ I h) fun xv s1 hx=>thn hx fun itv s2 h2=>?_)
 obtain⟨it,fp,tn,J,H2,e,I2,T,st2,f2,q⟩:=h2;subst e;refine wpAny_newObj_type (Zqb ?_) (by show 0<=sizeLine;decide);generalize hD:s2.heap.objs.size=D;have hDn:H2 D=none:=I2.hok.fresh (Nat.le_of_eq hD);obtain⟨W,⟨m0,w0⟩,turn⟩:=q D hDn;generalize hs3:({ s2 with heap:=s2.heap.push { cls:=.type "list",data:=.seq ([]:List Value).toArray } }:Shared)=s3;have I3:Inv X pins σ (upd H2 D (.lst [])) s3:=by
  rw[←hs3];refine I2.laid (t':=s2.toks) (fun b o e=>Heap.get?_push_of_some _ e) (Nat.le_of_eq hD) ⟨Nat.zero_le _,[],0,.nil,?_⟩;rw[←hD];exact Heap.get?_push_size _ rfl
 have h3:s3.heap=s2.heap.push { cls:=.type "list",data:=.seq ([]:List Value).toArray }:=by rw[←hs3]
 have sz:∀b∈fp,b < s2.heap.objs.size:=fun b hb=>by
  obtain⟨o,e,_⟩:=T.obj _ _ st2 b hb;exact Heap.lt_size e
 have f3:∀b∈fp,ZbC X pins (upd H2 D (.lst [])) b/\b < s3.heap.objs.size:=fun b hb=>by
  have hlt:=sz b hb;refine⟨⟨?_,(f2 b hb).2⟩,by rw[h3,Heap.size_push];exact Nat.lt_succ_of_lt hlt⟩;rw[Zf (by rw[←hD];exact Nat.ne_of_lt hlt)];exact(f2 b hb).1
 have st3:tn 0 s3.heap:=T.keep _ _ _ st2 fun b _ o e=>by rw[h3];exact Heap.get?_push_of_some _ e
 have I4:=Zqc I3 ok hN f3;have pg:=hg s3 (upd H2 D (.lst [])) s3.heap.objs.size (cellsFrom (s3.heap.objs.size+1) scope.names (ZaI X.env.cells scope.names [])) fp;have pt:=ht s3 (upd H2 D (.lst [])) s3.heap.objs.size (cellsFrom (s3.heap.objs.size+1) scope.names (ZaI X.env.cells scope.names [])) fp;have pe:=he s3 (upd H2 D (.lst [])) s3.heap.objs.size (cellsFrom (s3.heap.objs.size+1) scope.names (ZaI X.env.cells scope.names [])) fp;show codeAny _ _ (.compStart (.ListComp elt [⟨tg,iter,ifs,0⟩] scope pos) 0 (.ref it) (.ref D) (compEnvC scope (cellsFrom (s3.heap.objs.size+1) scope.names (ZaI X.env.cells scope.names [])) s3.heap.objs.size X.env)) (compPost (model X.prog X.w) X.A X.xe use Qf (.ref D) s3.heap.objs.size) { s3 with heap:=pushCells (s3.heap.push { cls:=.type "dict",data:=.dict #[] }) scope.names };have nfp:∀b∈fp,(upd H2 D (.lst [])) b=none:=fun b hb=>(f3 b hb).1.1;generalize hce:compEnvC scope (cellsFrom (s3.heap.objs.size+1) scope.names (ZaI X.env.cells scope.names [])) s3.heap.objs.size X.env=ce at I4 pg pt pe ⊢;have cL:ce.locals=s3.heap.objs.size:=by subst hce;rfl
 generalize hH3:upd H2 D (.lst [])=H3 at I3 I4 pg pt pe w0 nfp f3;generalize hs4:({ s3 with heap:=pushCells (s3.heap.push { cls:=.type "dict",data:=.dict #[] }) scope.names }:Shared)=s4 at I4 ⊢;have st4:tn 0 s4.heap:=T.keep _ _ _ st3 fun b _ o e=>by rw[←hs4];exact pushCells_keeps _ _ _ _ (Heap.get?_push_of_some _ e)
 have Zcp:∀{σ':St}{H':Hp}{s':Shared},Inv (X.blk s3 H3 scope ce fp) [] σ' H' s'->(∀b∈fp,H' b=none)->∀b∈fp,ZbC (X.blk s3 H3 scope ce fp) [] H' b:=fun{σ' H' s'} I' hn b hb =>
  ⟨hn b hb,(I'.ok.exf b hb).1,I'.ok.Zdc b hb,.inl hb,fun x c e=>(I'.ok.exf b hb).2 x c e,fun p hp=>absurd (show p∈([]:List (Addr×Obj))++[] from hp) (by simp)⟩
 have loop:codeAny (model X.prog X.w) X.A (.compLoop (.ListComp elt [⟨tg,iter,ifs,0⟩] scope pos) 0 (.ref it) (.ref D) ce) (compPost (model X.prog X.w) X.A X.xe use Qf (.ref D) s3.heap.objs.size) s4:=by
  refine Zqe (fun n s'=>∃i H',Inv (X.blk s3 H3 scope ce fp) [] (wipe σ (own.map (·.2))) H' s'/\tn i s'.heap/\(∀b∈fp,H' b=none)/\W i n H') ?_ m0 ⟨0,H3,I4,st4,nfp,w0⟩;rintro n s5 ⟨i,H5,I5,st5,n5,w5⟩;rcases turn i n H5 w5 with⟨stop,qq⟩|⟨go,Nx,hNx,step⟩
  ·have td:=T.done (X.blk s3 H3 scope ce fp) rfl rfl rfl hc i [] s5 _ H5 (fun _ _=>False) I5 (Zcp I5 n5) st5 stop;refine ZdY td fun r s6 ⟨hr,I6⟩=>?_;subst hr;have I7:Inv X pins σ H5 s6:=I3.ZgV (ch:=fp) I6.os I6.base I6.hok I6.bare fun b hb=>⟨(f3 b hb).1.2.2.2.1,(f3 b hb).1.2.1,(f3 b hb).1.2.2.2.2.1,(f3 b hb).1.2.2.2.2.2⟩
   have nC:H5 s3.heap.objs.size=none:=by
    have z:H5 ce.locals=none:=I6.free;rw[cL] at z;exact z
   obtain⟨m,hn,_⟩:=I6.loc;have hn:s6.heap.Ns ce.locals m:=hn;rw[cL] at hn;exact hRR D s3.heap.objs.size s6 m H5 I7 qq hn (I3.ZeC (Nat.le_refl _) nC)
  ·have ti:=T.item (X.blk s3 H3 scope ce fp) rfl rfl rfl hc i [] s5 _ H5 (fun _ _=>False) I5 (Zcp I5 n5) st5 go;refine ZdY ti fun r s6 ⟨u,hr,h6⟩=>?_;subst hr;refine ZdY h6 fun _ s7 ⟨x,H7,I7,r7,y7,st7,n7⟩=>?_;have I7':=I7.pinned (Zcp I7 n7) (T.obj _ _ st7);refine ZdY (pg _ s7 _ H7 x u _ I7' r7 (step x H7 y7)) fun _ s8 ⟨σ8,H8,I8,hw8,q8⟩=>?_;refine ZdY (pt _ s8 σ8 H8 _ I8 q8) fun b s9 ⟨H9,I9,q9⟩=>?_;have fin:∀{s':Shared}{H':Hp},Inv (X.blk s3 H3 scope ce fp) ([]++ZeD fp s7.heap) σ8 H' s'->Nx H'->∃m,m < n/\∃i H',Inv (X.blk s3 H3 scope ce fp) [] (wipe σ (own.map (·.2))) H' s'/\tn i s'.heap/\(∀b∈fp,H' b=none)/\W i m H':=fun{s' H'} I' nx=>by
    obtain⟨m',hm,w'⟩:=hNx H' nx;have pin':∀b∈fp,∀o,s7.heap.get? b=some o->s'.heap.get? b=some o/\H' b=none:=fun b hb o e =>
     let z:=I'.pin (b,o) (List.mem_append_right _ (List.mem_append_right _ (ZgZ hb e)))
     ⟨z.1,z.2.1⟩
    have hl:(wipe σ (own.map (·.2))).length=σ8.length:=by rw[←hw8,Zhk]
    refine⟨m',hm,i+1,H',(I'.Zfs (pins:=[])).weak hl (fun j v e=>?_),T.keep _ _ _ st7 fun b hb o e=>(pin' b hb o e).1,fun b hb=>?_,w'⟩
    ·rw[←hw8] at e;exact(Zhl e).1
    ·obtain⟨o,e,_⟩:=T.obj _ _ st7 b hb;exact(pin' b hb o e).2
   cases b with
   |false =>
    simp only[Bool.false_eq_true,if_false] at q9 ⊢;exact fin I9 q9
   |true =>
    simp only[if_true] at q9 ⊢;refine ZdY (pe _ s9 σ8 H9 _ I9 q9) fun z s10 ⟨yv,H10,I10,r10,acc,hD10,hz10,nx⟩=>?_;exact Zqd (X:=X.blk s3 H3 scope ce fp) I10 hD10 hz10 r10 fun s11 I11=>fin I11 nx
 exact codeAny_compStart_list loop (T.self X.A 0 _ _ _ st4 loop)
theorem Zbr{elt tg iter:Expr}{ifs:List Expr}{scope:Scope}{own:List (Str×Nat)}{pos:Pos}{wi:TI}{g:TG}{tt:TT}{te:TE}(hc:X.calm=true)(hN:X.N.Nodup)(hi:PI X tg iter wi)(ok:ZaT X.N X.env.scope scope own)
  (hg:∀(s:Shared)(H:Hp)(C:Addr)(cl:List (Str×Addr))(fp:List Addr),PG (X.blk s H scope (compEnvC scope cl C X.env) fp) tg g) (ht:∀(s:Shared)(H:Hp)(C:Addr)(cl:List (Str×Addr))(fp:List Addr),PTs (X.blk s H scope (compEnvC scope cl C X.env) fp) ifs tt)
  (he:∀(s:Shared)(H:Hp)(C:Addr)(cl:List (Str×Addr))(fp:List Addr),PE (X.blk s H scope (compEnvC scope cl C X.env) fp) elt te) (hs:∀x,foldedSetIterable iter X.env x=pure x:=by intro _;rfl) :
  PE X (.ListComp elt [⟨tg,iter,ifs,0⟩] scope pos) (tLc wi g tt te (own.map (·.2))):=by
 intro pins s σ H Q I h;rw[eval_ListComp];refine ZkM hc hN I hi ok hg ht he hs h fun D C s' m H' I' q hn f=>⟨m,hn,fun h'' sb=>?_⟩
 obtain⟨f0,f1,f2,f3,f4,f5⟩:=f;exact⟨.ref D,H',I'.turned (t':=s'.toks) (fun b o hb e=>(sb.2 b hb).trans e) f0 f1 f3 f4 f5,rfl,q⟩
theorem ZkN{i:Nat}{y:Str}{py:Pos}{elt tg iter:Expr}{ifs:List Expr}{scope:Scope}{own:List (Str×Nat)}{pos spos:Pos}{wi:TI}{g:TG}{tt:TT}{te:TE}(hc:X.calm=true)(hN:X.N.Nodup)(hy:X.N[i]?=some y)(hyl:X.env.scope.names.lookup y=some .local)
  (hsw:swapsWith (.ListComp elt [⟨tg,iter,ifs,0⟩] scope pos) (some (.Name y py)) spos.line X.env=pure true) (hi:PI X tg iter wi) (ok:ZaT X.N X.env.scope scope own)
  (hg:∀(s:Shared)(H:Hp)(C:Addr)(cl:List (Str×Addr))(fp:List Addr),PG (X.blk s H scope (compEnvC scope cl C X.env) fp) tg g) (ht:∀(s:Shared)(H:Hp)(C:Addr)(cl:List (Str×Addr))(fp:List Addr),PTs (X.blk s H scope (compEnvC scope cl C X.env) fp) ifs tt)
  (he:∀(s:Shared)(H:Hp)(C:Addr)(cl:List (Str×Addr))(fp:List Addr),PE (X.blk s H scope (compEnvC scope cl C X.env) fp) elt te) (hs:∀x,foldedSetIterable iter X.env x=pure x:=by intro _;rfl) :
  PS X (.Assign [.Name y py] (.ListComp elt [⟨tg,iter,ifs,0⟩] scope pos) spos) (ZeB (tLc wi g tt te (own.map (·.2))) (ZaP i)):=by
 intro pins s σ H D I h;rw[exec_Assign_Name_used _ _ _ _ hsw];refine wpAny_bind (wpAny_standAt (wpAny_bind ?_));show wpAny _ X.A (do let _ ←comprehension (.ListComp elt [⟨tg,iter,ifs,0⟩] scope pos) scope X.env (firstIterPos [⟨tg,iter,ifs,0⟩] pos) (newList []) false (eval iter X.env) (some (assign (.Name y py) X.env))) _ _ s;have h:tLc wi g tt te (own.map (·.2)) σ H (fun x H1=>ZaP i x σ H1 D.nx):=h;refine wpAny_bind (thn (ZkM (Qf:=fun _ s'=>SP X pins D .next s') hc hN I hi ok hg ht he hs h fun L C s' m H' I' q hn f=>?_) fun _ s' hq=>wpAny_pure (wpAny_pure hq));show wpAny _ _ (assign (.Name y py) X.env (.ref L)) _ _ _;refine wpAny_assign_Name (Zj2 (v:=V.ref L) I' hN hy (.inl hyl) rfl (fun s2 I2 ⟨a,sb,ha⟩=>?_) (.inr hyl));obtain⟨f0,f1,f2,f3,f4,f5⟩:=f;have haC:C≠a:=by
  rcases ha with z|z
  ·rw[z];exact f1
  ·exact fun e=>f4 y a z e.symm
 refine⟨m,hn.sameBut sb haC,fun h3 sb3=>?_⟩;exact⟨_,H',I2.turned (t':=s2.toks) (fun b o hb e=>(sb3.2 b hb).trans e) f0 f1 f3 f4 f5,q⟩
end
theorem ZcN{K:PySem.W.Frag}{a:Addr}{xs:List V}{g:TG}{tt:TT}{te:TE}{vs:List Nat}{σ:St}{H1:Hp}{D:Addr}{Qd:Hp->Prop}(Pv:Nat->Hp->Prop)(h0:Pv 0 (upd H1 D (.lst [])))(hl:∀i H,i<=xs.length->Pv i H->SqL K H a xs)
  (hs:∀i x H,xs[i]?=some x->Pv i H->g x (wipe σ vs) H fun σ2 H2=>wipe σ2 vs=wipe σ vs/\tt σ2 H2 fun b H3 =>
   if b=true then te σ2 H3 fun y H4=>∃acc,H4 D=some (.lst acc)/\acc.length < sizeLine/\Pv (i+1) (upd H4 D (.lst (acc++[y]))) else Pv (i+1) H3) (hd:∀H,Pv xs.length H->Qd H) :
  ∃W:Nat->Nat->Hp->Prop,(∃m,W 0 m (upd H1 D (.lst [])))/\∀i m H,W i m H ->
   ((Itl K a).stop i H/\Qd H)\/((Itl K a).go i H/\∃Nx:Hp->Prop,(∀H',Nx H'->∃m',m' < m/\W (i+1) m' H')/\∀x H',(Itl K a).yld i H x H'->g x (wipe σ vs) H' fun σ2 H2=>wipe σ2 vs=wipe σ vs/\tt σ2 H2 fun b H3 =>
    if b=true then te σ2 H3 fun y H4=>∃acc,H4 D=some (.lst acc)/\acc.length < sizeLine/\Nx (upd H4 D (.lst (acc++[y]))) else Nx H3):=by
 refine⟨fun i m H=>m=xs.length - i/\i<=xs.length/\Pv i H,⟨xs.length,by simp,Nat.zero_le _,h0⟩,?_⟩;rintro i m H ⟨rfl,hi,p⟩;have q:=hl i H hi p;by_cases hlt:i < xs.length
 ·refine .inr ⟨⟨xs,xs[i],q,by simp[hlt]⟩,Pv (i+1),fun H' p'=>⟨xs.length - (i+1),by omega,rfl,hlt,p'⟩,fun x H' y=>?_⟩;obtain⟨e,y⟩:=y;subst e;exact hs i x _ (y xs q) p
 ·have e:i=xs.length:=by omega
  subst e;exact .inl ⟨⟨xs,q,Nat.le_refl _⟩,hd H p⟩
end L2
namespace L2
open PySem PySem.Spec PyProof.Rows
section
variable{prog:Program}{w:World}{A:Around}{R:Result->Shared->Prop}{s:Shared}{elt t0 i0 t1 i1:Expr}{ifs0 ifs1:List Expr}{scope:Scope}{pos:Pos}{it acc:Value}{env:Env}
end
section
variable{X:Cx}
end
end L2
namespace L2
open PySem PySem.Spec PyProof.Rows
section
variable{κ:Type}[DecidableEq κ]
def Zab(kvs:List (κ×V))(k:κ):Option V:=(kvs.find? fun kv=>decide (kv.1=k)).map (·.2)
def putK(kvs:List (κ×V))(k:κ)(v:V):List (κ×V) :=
 if(kvs.any fun kv=>decide (kv.1=k))=true then kvs.map (fun kv=>if kv.1=k then(kv.1,v) else kv) else kvs++[(k,v)]
theorem Zdp{p:κ×V}{r:List (κ×V)}{k:κ}(e:p.1=k):Zab (p::r) k=some p.2:=by simp[Zab,List.find?_cons,e]
theorem Zdq{p:κ×V}{r:List (κ×V)}{k:κ}(e:¬p.1=k):Zab (p::r) k=Zab r k:=by simp[Zab,List.find?_cons,e]
theorem ZdZ(k:κ):∀kvs:List (κ×V),(kvs.any fun kv=>decide (kv.1=k))=(Zab kvs k).isSome
 |[]=>rfl
 |p::r=>by
  rw[List.any_cons];by_cases e:p.1=k
  ·simp only[Zdp e,decide_eq_true e,Bool.true_or,Option.isSome_some]
  ·rw[Zdq e,decide_eq_false e,Bool.false_or];exact ZdZ k r
theorem Zhm(kvs:List (κ×V))(k:κ)(v:V):(putK kvs k v).length<=kvs.length+1:=by
 unfold putK;split
 ·rw[List.length_map];omega
 ·rw[List.length_append,List.length_cons,List.length_nil];omega
theorem ZaO.Zd0{o:Option V}{u:Option Value}(r:ZaO o u):o.isSome=u.isSome:=by
 cases o with
 |none=>cases u with
  |none=>rfl
  |some _=>exact(show False from r).elim
 |some _=>cases u with
  |none=>exact(show False from r).elim
  |some _=>rfl
theorem ZaO.getD{o:Option V}{u:Option Value}{d:V}{d':Value}(r:ZaO o u)(rd:RelV d d'):RelV (o.getD d) (u.getD d'):=by
 cases o with
 |none=>cases u with
  |none=>exact rd
  |some _=>exact(show False from r).elim
 |some _=>cases u with
  |none=>exact(show False from r).elim
  |some _=>exact r
theorem KV.val{kvs:List (κ×V)}{vs:List (κ×Value)}(r:KV kvs vs)(k:κ):ZaO (Zab kvs k) (valueAt vs k):=by
 unfold KV at r;induction r with
 |nil=>exact True.intro
 |@cons p q ps qs h t ih =>
  obtain⟨h1,h2⟩:=h;by_cases e:p.1=k
  ·have e':q.1=k:=h1.symm.trans e;have b:valueAt (q::qs) k=some q.2:=by simp[valueAt,List.find?_cons,e']
   rw[Zdp e,b];exact h2
  ·have e':¬q.1=k:=fun z=>e (h1.trans z);have b:valueAt (q::qs) k=valueAt qs k:=by simp[valueAt,List.find?_cons,e']
   rw[Zdq e,b];exact ih
theorem KV.any{kvs:List (κ×V)}{vs:List (κ×Value)}(r:KV kvs vs)(k:κ):(kvs.any fun kv=>decide (kv.1=k))=vs.any fun kv=>decide (kv.1=k):=by
 unfold KV at r;induction r with
 |nil=>rfl
 |cons h t ih=>rw[List.any_cons,List.any_cons,ih,h.1]
theorem KV.Zhn{kvs:List (κ×V)}{vs:List (κ×Value)}(r:KV kvs vs)(k:κ){y:V}{u:Value}(ry:RelV y u) :
  KV (kvs.map fun kv=>if kv.1=k then(kv.1,y) else kv) (vs.map fun kv=>if kv.1=k then(kv.1,u) else kv):=by
 unfold KV at r ⊢;induction r with
 |nil=>exact .nil
 |@cons p q ps qs h t ih =>
  rw[List.map_cons,List.map_cons];refine .cons ?_ ih;obtain⟨h1,h2⟩:=h;by_cases e:p.1=k
  ·rw[if_pos e,if_pos (h1.symm.trans e)];exact⟨h1,ry⟩
  ·rw[if_neg e,if_neg (fun z=>e (h1.trans z))];exact⟨h1,h2⟩
theorem KV.put{kvs:List (κ×V)}{vs:List (κ×Value)}(r:KV kvs vs)(k:κ){y:V}{u:Value}(ry:RelV y u):KV (putK kvs k y) (stored vs k u):=by
 unfold putK stored;rw[r.any k];by_cases e:(vs.any fun kv=>decide (kv.1=k))=true
 ·rw[if_pos e,if_pos e];exact r.Zhn k ry
 ·rw[if_neg e,if_neg e];exact Paired.snoc r ⟨rfl,ry⟩
theorem KV.length{kvs:List (κ×V)}{vs:List (κ×Value)}(r:KV kvs vs):kvs.length=vs.length:=Paired.length r
end
theorem Zcr{P:Program}{w:World}{k:Key}{u:Value}(r:RelV (kV k) u):(ZaG P w).is k u=true:=by
 cases k with
 |inl i=>obtain⟨t,e⟩:=(show∃t,u=Value.int i t from r);subst e;exact Zov P w i t
 |inr x=>obtain⟨t,e⟩:=(show∃t,u=Value.str x t from r);subst e;exact Zow P w x t
theorem ZkO{P:Program}{w:World}:∀{ks:List Key}{us:List Value},Zn (ks.map kV) us->ItemsAre (ZaG P w) ks us
 |[],_,r=>by rw[List.map_nil] at r;cases r;exact .nil
 |k::ks,_,r=>by
  rw[List.map_cons] at r;cases r with
  |cons h t=>exact .cons (Zcr h) (ZkO t)
abbrev KT(H:Hp):List (List Key×V)->List (List Key×Addr×Value)->Prop:=Paired fun p q=>p.1=q.1/\H q.2.1=some (.tup (p.1.map kV))/\RelV p.2 q.2.2
theorem KT.val{H:Hp}{kvs:List (List Key×V)}{xs:List (List Key×Addr×Value)}(r:KT H kvs xs)(k:List Key):ZaO (Zab kvs k) ((atKey xs k).map (·.2)):=by
 induction r with
 |nil=>exact True.intro
 |@cons p q ps qs h t ih =>
  obtain⟨h1,_,h2⟩:=h;by_cases e:p.1=k
  ·have e':q.1=k:=h1.symm.trans e;have b:atKey (q::qs) k=some q.2:=by simp[atKey,List.find?_cons,e']
   rw[Zdp e,b];exact h2
  ·have e':¬q.1=k:=fun z=>e (h1.trans z);have b:atKey (q::qs) k=atKey qs k:=by simp[atKey,List.find?_cons,e']
   rw[Zdq e,b];exact ih
theorem KT.Zhn{H:Hp}{kvs:List (List Key×V)}{xs:List (List Key×Addr×Value)}(r:KT H kvs xs)(k:List Key){y:V}{u:Value}(ry:RelV y u) :
  KT H (kvs.map fun kv=>if kv.1=k then(kv.1,y) else kv) (xs.map (putAt k u)):=by
 induction r with
 |nil=>exact .nil
 |@cons p q ps qs h t ih =>
  rw[List.map_cons,List.map_cons];refine .cons ?_ ih;obtain⟨h1,h2,h3⟩:=h;unfold putAt;by_cases e:p.1=k
  ·rw[if_pos e,if_pos (h1.symm.trans e)];exact⟨h1,h2,ry⟩
  ·rw[if_neg e,if_neg (fun z=>e (h1.trans z))];exact⟨h1,h2,h3⟩
theorem KT.put{H:Hp}{kvs:List (List Key×V)}{xs:List (List Key×Addr×Value)}(r:KT H kvs xs)(k:List Key){b:Addr}{y:V}{u:Value}(hb:H b=some (.tup (k.map kV)))(ry:RelV y u) :
  KT H (putK kvs k y) (storedH xs k b u):=by
 have e:(kvs.any fun kv=>decide (kv.1=k))=(atKey xs k).isSome:=by
  rw[ZdZ,(r.val k).Zd0,Option.isSome_map]
 unfold putK storedH;rw[e];by_cases q:(atKey xs k).isSome=true
 ·rw[if_pos q,if_pos q];exact r.Zhn k ry
 ·rw[if_neg q,if_neg q];exact Paired.snoc r ⟨rfl,hb,ry⟩
theorem KT.keeps{H H':Hp}{kvs:List (List Key×V)}{xs:List (List Key×Addr×Value)}(r:KT H kvs xs)(ht:∀b ys,H b=some (.tup ys)->H' b=some (.tup ys)):KT H' kvs xs :=
 Paired.ZP r fun _ _ z=>⟨z.1,ht _ _ z.2.1,z.2.2⟩
section
variable{P:Program}{w:World}{H:Hp}{h:Heap}{a:Addr}
theorem ZkP{u:HO}(ok:HOk P w H h)(e:Rd H a u):Zac P w H h a u:=e.ok ok
theorem ZcO{kvs:List (Key×V)}(ok:HOk P w H h)(e:Rd H a (.dK kvs)):kvs.length<=sizeLine/\(a==sysModules)=false/\∃vs,KV kvs vs/\h.DictOf (ZaG P w) a vs :=
 show Zac P w H h a (.dK kvs) from ZkP ok e
theorem ZkQ{kvs:List (Key×V)}(ok:HOk P w H h)(e:H a=some (.dK kvs)):kvs.length<=sizeLine/\(a==sysModules)=false/\∃vs,KV kvs vs/\h.DictOf (ZaG P w) a vs:=ZcO ok (.inl e)
theorem Zd1{ks:List Key}(ok:HOk P w H h)(e:H a=some (.tup (ks.map kV))):(tupleKind (ZaG P w)).is h ks a:=by
 obtain⟨_,its,r,o,h1,h2,n,h3⟩:=(show Zac P w H h a (.tup (ks.map kV)) from ok a _ e)
 exact⟨o,its.toArray,n,h1,h2,h3,by simpa using ZkO r⟩
theorem Zdr{kvs:List (List Key×V)}(ok:HOk P w H h)(e:Rd H a (.dT kvs)):kvs.length<=sizeLine/\(a==sysModules)=false /\
  ∃xs,KT H kvs xs/\h.DictOfH (tupleKind (ZaG P w)) a xs:=by
 obtain⟨z,y,xs,r,o,es,ep,h1,h2,h3,h4,h5⟩:=(show Zac P w H h a (.dT kvs) from ZkP ok e)
 refine⟨z,y,xs,r,o,es,ep,h1,h2,h3,h4,fun x hx=>?_,h5⟩;have all:∀{l:List (List Key×V)}{m:List (List Key×Addr×Value)},KT H l m->∀x∈m,(tupleKind (ZaG P w)).is h x.1 x.2.1:=by
  intro l m q;induction q with
  |nil=>intro x hx;exact nomatch hx
  |@cons p q ps qs hq t ih =>
   intro x hx;rcases List.mem_cons.mp hx with e|hx
   ·subst e;exact Zd1 ok (by rw[←hq.1];exact hq.2.1)
   ·exact ih x hx
 exact all r x hx
theorem Zqf{kvs:List (List Key×V)}(ok:HOk P w H h)(e:H a=some (.dT kvs)):kvs.length<=sizeLine/\(a==sysModules)=false /\
  ∃xs,KT H kvs xs/\h.DictOfH (tupleKind (ZaG P w)) a xs:=Zdr ok (.inl e)
end
def Zas(H:Hp)(a:Addr)(y:V)(r:Option V):Prop :=
 (∃kvs k,Rd H a (.dK kvs)/\y=kV k/\r=Zab kvs k)\/∃kvs k b,Rd H a (.dT kvs)/\y=.ref b/\H b=some (.tup (k.map kV))/\r=Zab kvs k
def Zca(H:Hp)(a:Addr)(y v:V)(H':Hp):Prop :=
 (∃kvs k,H a=some (.dK kvs)/\y=kV k/\kvs.length < sizeLine/\H'=upd H a (.dK (putK kvs k v))) \/
 ∃kvs k b,H a=some (.dT kvs)/\y=.ref b/\H b=some (.tup (k.map kV))/\kvs.length < sizeLine/\H'=upd H a (.dT (putK kvs k v))
theorem Zas.k{H:Hp}{a:Addr}{kvs:List (Key×V)}{k:Key}(e:H a=some (.dK kvs)):Zas H a (kV k) (Zab kvs k):=.inl ⟨kvs,k,.inl e,rfl,rfl⟩
theorem Zas.t{H:Hp}{a b:Addr}{kvs:List (List Key×V)}{k:List Key}(e:H a=some (.dT kvs))(eb:H b=some (.tup (k.map kV))):Zas H a (.ref b) (Zab kvs k):=.inr ⟨kvs,k,b,.inl e,rfl,eb,rfl⟩
theorem Zca.k{H:Hp}{a:Addr}{kvs:List (Key×V)}{k:Key}{v:V}(e:H a=some (.dK kvs))(hl:kvs.length < sizeLine):Zca H a (kV k) v (upd H a (.dK (putK kvs k v))):=.inl ⟨kvs,k,e,rfl,hl,rfl⟩
theorem Zca.t{H:Hp}{a b:Addr}{kvs:List (List Key×V)}{k:List Key}{v:V}(e:H a=some (.dT kvs))(eb:H b=some (.tup (k.map kV)))(hl:kvs.length < sizeLine) :
  Zca H a (.ref b) v (upd H a (.dT (putK kvs k v))):=.inr ⟨kvs,k,b,e,rfl,eb,hl,rfl⟩
section
variable{X:Cx}{pins:List (Addr×Obj)}{σ:St}{H:Hp}{s:Shared}{a:Addr}{y v:V}{u r:Value}{o:Option V}{A:Around}{E:Value->Shared->Prop}
theorem Inv.big(I:Inv X pins σ H s):sysModules < s.heap.objs.size:=by
 have h:mainGlobals < s.heap.objs.size:=(I.mod.glob.keeps I.bk).lt;exact Nat.lt_trans (by decide) h
theorem Zqg{Q:Value->Shared->Prop}(hu:A.units+1 < cLine)(I:Inv X pins σ H s)(g:Zas H a y (some v))(ry:RelV y u)(h:∀w' s',Inv X pins σ H s'->RelV v w'->Q w' s') :
  wpAny (model X.prog X.w) A (getItem (.ref a) u) Q E s:=by
 rcases g with⟨kvs,k,e,ey,l⟩|⟨kvs,k,b,e,ey,eb,l⟩
 ·subst ey;obtain⟨z,hd,vs,rel,dd⟩:=ZcO I.hok e;obtain⟨w',hw,rw'⟩:=ZaO.some_of (v:=v) (o:=valueAt vs k) (by rw[l];exact rel.val k);exact wpAny_getItem_of (Zcr ry) dd.mapOf hw (h w' _ (I.tok _) rw')
 ·subst ey;cases(show u=Value.ref b from ry);obtain⟨z,hd,xs,rel,dd⟩:=Zdr I.hok e;obtain⟨w',hw,rw'⟩:=ZaO.some_of (v:=v) (o:=(atKey xs k).map (·.2)) (by rw[l];exact rel.val k);obtain⟨p,hp,hp2⟩:=Option.map_eq_some_iff.mp hw;refine wpAny_getItem_heap (tupleKind_room_in1 hu) (Zd1 I.hok eb) dd hp ?_;rw[hp2];exact h w' _ (I.tok _) rw'
theorem Zqh{Q:Value->Shared->Prop}(hu:A.units+1 < cLine)(I:Inv X pins σ H s)(g:Zas H a y o)(ry:RelV y u)(h:∀s',Inv X pins σ H s'->Q (.bool o.isSome) s') :
  wpAny (model X.prog X.w) A (compareOp .In u (.ref a)) Q E s:=by
 rcases g with⟨kvs,k,e,ey,l⟩|⟨kvs,k,b,e,ey,eb,l⟩
 ·subst ey;obtain⟨z,hd,vs,rel,dd⟩:=ZcO I.hok e;refine wpAny_in_of (Zcr ry) hd dd.mapOf ?_;rw[←(rel.val k).Zd0,←l];exact h _ (I.tok _)
 ·subst ey;cases(show u=Value.ref b from ry);obtain⟨z,hd,xs,rel,dd⟩:=Zdr I.hok e;refine wpAny_in_heap (tupleKind_room_in1 hu) (Zd1 I.hok eb) hd dd ?_;have q:=(rel.val k).Zd0;rw[Option.isSome_map] at q;rw[←q,←l];exact h _ (I.tok _)
theorem Zqi{Q:Value->Shared->Prop}(hu:A.units+1 < cLine)(I:Inv X pins σ H s)(g:Zas H a y o)(ry:RelV y u)(h:∀s',Inv X pins σ H s'->Q (.bool (!o.isSome)) s') :
  wpAny (model X.prog X.w) A (compareOp .NotIn u (.ref a)) Q E s:=by
 rcases g with⟨kvs,k,e,ey,l⟩|⟨kvs,k,b,e,ey,eb,l⟩
 ·subst ey;obtain⟨z,hd,vs,rel,dd⟩:=ZcO I.hok e;refine wpAny_notIn_of (Zcr ry) hd dd.mapOf ?_;rw[←(rel.val k).Zd0,←l];exact h _ (I.tok _)
 ·subst ey;cases(show u=Value.ref b from ry);obtain⟨z,hd,xs,rel,dd⟩:=Zdr I.hok e;refine wpAny_notIn_heap (tupleKind_room_in1 hu) (Zd1 I.hok eb) hd dd ?_;have q:=(rel.val k).Zd0;rw[Option.isSome_map] at q;rw[←q,←l];exact h _ (I.tok _)
theorem Zho{h':Heap}{t':Nat}{ob:HO}(I:Inv X pins σ H s)(mu:Mut (H a))(hs:Heap.SameBut a s.heap h')(he:∃q,h'.get? a=some q)(new:Zac X.prog X.w (upd H a ob) h' a ob) :
  Inv X pins σ (upd H a ob) { s with heap:=h',toks:=t' } :=
 I.write (x:=a) (e:=a) mu (.inl rfl) (fun b q hb z=>(hs.2 b hb).trans z) he new
theorem ZkR{P:Program}{w:World}{H':Hp}{h':Heap}{kvs:List (Key×V)}{vs:List (Key×Value)}(z:kvs.length<=sizeLine)(hd:(a==sysModules)=false)(rel:KV kvs vs)(dd:h'.DictOf (ZaG P w) a vs) :
  Zac P w H' h' a (.dK kvs):=⟨z,hd,vs,rel,dd⟩
theorem Zqj{H':Hp}{Q:Unit->Shared->Prop}(hu:A.units+1 < cLine)(I:Inv X pins σ H s)(g:Zca H a y v H')(ry:RelV y u)(rv:RelV v r)(h:∀s',Inv X pins σ H' s'->Q () s') :
  wpAny (model X.prog X.w) A (setItem (.ref a) u r) Q E s:=by
 rcases g with⟨kvs,k,e,ey,l,eH⟩|⟨kvs,k,b,e,ey,eb,l,eH⟩
 ·subst ey eH;obtain⟨z,hd,vs,rel,dd⟩:=ZkQ I.hok e;have hz:vs.length<=sizeLine:=by rw[←rel.length];exact z
  have hl:(putK kvs k v).length<=sizeLine:=by have:=Zhm kvs k v;omega
  refine wpAny_setItem_pairs (hsz:=hz) (Zcr ry) dd fun h' dd' hs=>h _ ?_;have he:∃q,h'.get? a=some q:=let ⟨q,_,_,hq,_⟩:=dd';⟨q,hq⟩;exact Zho I (by rw[e];exact True.intro) hs he (ZkR hl hd (rel.put k rv) dd')
 ·subst ey eH;cases(show u=Value.ref b from ry);obtain⟨z,hd,xs,rel,dd⟩:=Zqf I.hok e;have hz:xs.length<=sizeLine:=by rw[←Paired.length rel];exact z
  have hl:(putK kvs k v).length<=sizeLine:=by have:=Zhm kvs k v;omega
  refine wpAny_setItem_heap (hsz:=hz) (tupleKind_room_in1 hu) (Zd1 I.hok eb) dd fun h' dd' hs=>h _ ?_;obtain⟨q,es,ep,hq,h2,h3,h4,_,h5⟩:=dd';refine Zho I (by rw[e];exact True.intro) hs ⟨q,hq⟩ ⟨hl,hd,_,(rel.put k eb rv).keeps fun c ys ec=>?_,q,es,ep,hq,h2,h3,h4,h5⟩;rw[Zf (Z6 ec e (fun z=>nomatch z))];exact ec
end
section
variable{X:Cx}{pins:List (Addr×Obj)}{σ:St}{H:Hp}{s:Shared}{a:Addr}{kvs:List (Key×V)}{k:Key}{u:Value}{A:Around}{E:Value->Shared->Prop}
theorem Zqk{Q:Value->Shared->Prop}(I:Inv X pins σ H s)(e:Rd H a (.dK kvs))(h:∀t s',Inv X pins σ H s'->Q (.int kvs.length t) s'):wpAny (model X.prog X.w) A (call (.builtin "len") [.ref a]) Q E s:=by
 obtain⟨z,hd,vs,rel,dd⟩:=ZcO I.hok e;refine call_len_dict hd dd (by rw[←rel.length];rw[sizeLine_eq] at z;omega) ?_;rw[←rel.length];exact h _ _ (I.tok _)
end
def Zhp(i:Expr):Prop:=∀ov iv,subscripted i false ov iv=operate [ov,iv] (getItem ov iv)
theorem ZkS{prog:Program}{w:World}{A:Around}{E:Value->Shared->Prop}{s:Shared}{env:Env}{value slice:Expr}{pos:Pos}{T id:String}{Q:Value->Shared->Prop}
  (hl:typeLookup (.type T) "__getitem__"=pure (some (.builtin id))) (hs:Zhp slice)
  (h:wpAny (model prog w) A (eval value env) (fun o s₁=>wpAny (model prog w) A (eval slice env) (fun i s₂=>s₂.TypeIs o T/\wpAny (model prog w) A (getItem o i) Q E s₂) E s₁) E s) :
  wpAny (model prog w) A (eval (.Subscript value slice pos) env) Q E s:=by
 refine Subscript_ (wpAny_mono h (fun o s₁ h₁=>wpAny_mono h₁ (fun i s₂ h₂=>?_) fun _ _ x=>x) fun _ _ x=>x);obtain⟨hT,h₂⟩:=h₂;unfold subscriptTail;refine wpAny_bind ?_;rw[getitemInPython_of_ne hT.not_modules];refine wpAny_bind (wpAny_specialOf hT hl ?_);have fin:wpAny (model prog w) A (subscripted slice false o i) (fun r s₃=>wpAny (model prog w) A (letTemporaryGo value o r >>= fun _=>pure r) Q E s₃) E s₂:=by
  rw[hs o i];exact wpAny_operating (wpAny_mono h₂ (fun r s₃ h₃=>wpAny_bind (wpAny_letTemporaryGo (wpAny_pure h₃))) fun _ _ x=>x)
 first
  |exact wpAny_pure (wpAny_bind fin)
  |exact wpAny_bind (wpAny_pure (wpAny_bind fin))
  |exact wpAny_bind fin
theorem Zql{X:Cx}{pins:List (Addr×Obj)}{σ:St}{H:Hp}{s:Shared}{a:Addr}{y:V}{o:Option V}(I:Inv X pins σ H s)(g:Zas H a y o):s.TypeIs (.ref a) "dict":=by
 rcases g with⟨kvs,k,e,_,_⟩|⟨kvs,k,b,e,_,_,_⟩
 ·obtain⟨_,_,vs,_,dd⟩:=ZcO I.hok e;exact dd.typeIs
 ·obtain⟨_,_,xs,_,dd⟩:=Zdr I.hok e;exact dd.typeIs
inductive Zqm(x y:V)(H2:Hp)(Q:VK):Prop
 |mk (a v) (_:x=.ref a) (_:Zas H2 a y (some v)) (_:Q v H2)
def ZfD(td ty:TE):TE:=fun σ H Q=>td σ H fun x H1=>ty σ H1 fun y H2=>Zqm x y H2 Q
inductive Zqn(x y:V)(H2:Hp)(Q:VK):Prop
 |mk (a o) (_:x=.ref a) (_:Zas H2 a y o) (_:Q (.bl o.isSome) H2)
def Zqo(ty td:TE):TE:=fun σ H Q=>ty σ H fun y H1=>td σ H1 fun x H2=>Zqn x y H2 Q
inductive Zqp(x y:V)(H2:Hp)(Q:VK):Prop
 |mk (a o) (_:x=.ref a) (_:Zas H2 a y o) (_:Q (.bl (!o.isSome)) H2)
def Zqq(ty td:TE):TE:=fun σ H Q=>ty σ H fun y H1=>td σ H1 fun x H2=>Zqp x y H2 Q
inductive Zqr(D:Ends)(σ:St)(v x y:V)(H3:Hp):Prop
 |mk (a H4) (_:x=.ref a) (_:Zca H3 a y v H4) (_:D.nx σ H4)
def Zqs(td ty tv:TE):TS:=fun D σ H=>tv σ H fun v H1=>td σ H1 fun x H2=>ty σ H2 fun y H3=>Zqr D σ v x y H3
section
variable{X:Cx}{o i e value:Expr}{pos pos' tpos:Pos}{td ty tv:TE}
theorem ZeL(hu:X.A.units+1 < cLine)(ho:PE X o td)(hi:PE X i ty)(hs:Zhp i):PE X (.Subscript o i pos) (ZfD td ty):=by
 intro pins s σ H Q I h;refine ZkS PySem.F.slot_dict_getitem.lookup hs (thn (ho pins s σ H _ I h) fun u s1 ⟨x,H1,I1,rx,q1⟩=>thn (hi pins s1 σ H1 _ I1 q1) fun iv s2 ⟨y,H2,I2,ry,a,v,ex,g,q2⟩=>?_);subst ex;obtain rfl:u=Value.ref a:=rx;exact⟨Zql I2 g,Zqg hu I2 g ry fun w' s3 I3 rw'=>⟨v,H2,I3,rw',q2⟩⟩
theorem ZkT(hu:X.A.units+1 < cLine)(hi:PE X i ty)(ho:PE X o td):PC X .In i o (Zqo ty td):=by
 intro pins s σ H Q I h;refine thn (hi pins s σ H _ I h) fun iv s1 ⟨y,H1,I1,ry,q1⟩=>thn (ho pins s1 σ H1 _ I1 q1) fun u s2 ⟨x,H2,I2,rx,a,ov,ex,g,q2⟩=>?_;subst ex;obtain rfl:u=Value.ref a:=rx;exact Zqh hu I2 g ry fun s3 I3=>⟨.bl ov.isSome,H2,I3,rfl,q2⟩
theorem ZfE(hu:X.A.units+1 < cLine)(hi:PE X i ty)(ho:PE X o td):PC X .NotIn i o (Zqq ty td):=by
 intro pins s σ H Q I h;refine thn (hi pins s σ H _ I h) fun iv s1 ⟨y,H1,I1,ry,q1⟩=>thn (ho pins s1 σ H1 _ I1 q1) fun u s2 ⟨x,H2,I2,rx,a,ov,ex,g,q2⟩=>?_;subst ex;obtain rfl:u=Value.ref a:=rx;exact Zqi hu I2 g ry fun s3 I3=>⟨.bl (!ov.isSome),H2,I3,rfl,q2⟩
theorem ZfF(hu:X.A.units+1 < cLine)(ho:PE X o td)(hi:PE X i ty)(hv:PE X value tv)(hs:swapsWith value (some (.Subscript o i pos')) pos.line X.env=pure false) :
  PS X (.Assign [.Subscript o i pos'] value pos) (Zqs td ty tv):=by
 intro pins s σ H D I h;refine wpAny_Assign_Subscript (thn (hv pins s σ H _ I h) fun r s1 ⟨v,H1,I1,rv,q1⟩=>thn (ho pins s1 σ H1 _ I1 q1) fun u s2 ⟨x,H2,I2,rx,q2⟩=>thn (hi pins s2 σ H2 _ I2 q2) fun iv s3 ⟨y,H3,I3,ry,a,H4,ex,g,q3⟩=>?_) hs;subst ex;obtain rfl:u=Value.ref a:=rx;exact Zqj hu I3 g ry rv fun s4 I4=>⟨σ,H4,I4,q3⟩
end
theorem Zqt{P:Program}{w:World}{H:Hp}(h:Heap)(hb:sysModules < h.objs.size):Zac P w H (h.push { cls:=.type "dict",data:=.dict #[] }) h.objs.size (.dK []) :=
 ⟨Nat.zero_le _,beq_eq_false_iff_ne.mpr (Ne.symm (Nat.ne_of_lt hb)),[],.nil,Heap.DictOf.new h⟩
theorem Zqu{P:Program}{w:World}{H:Hp}(h:Heap)(hb:sysModules < h.objs.size):Zac P w H (h.push { cls:=.type "dict",data:=.dict #[] }) h.objs.size (.dT []) :=
 ⟨Nat.zero_le _,beq_eq_false_iff_ne.mpr (Ne.symm (Nat.ne_of_lt hb)),[],.nil,_,#[],0,Heap.get?_push_size _ rfl,⟨rfl,rfl,rfl⟩,rfl,rfl,List.nodup_nil⟩
def Zqv:TE:=fun _ H Q=>∀p,H p=none->Q (.ref p) (upd H p (.dK []))
def Zqw:TE:=fun _ H Q=>∀p,H p=none->Q (.ref p) (upd H p (.dT []))
section
variable{X:Cx}{pos:Pos}
theorem ZfG:PE X (.Dict [] [] pos) Zqv:=fun pins s σ H Q I h =>
 wpAny_Dict_empty ⟨.ref s.heap.objs.size,_,I.laid (a:=s.heap.objs.size) (o:=.dK []) (t':=s.toks) (fun _ _ q=>Heap.get?_push_of_some _ q) (Nat.le_refl _) (Zqt s.heap I.big),rfl,h _ (I.hok.fresh (Nat.le_refl _))⟩
theorem Zqx:PE X (.Dict [] [] pos) Zqw:=fun pins s σ H Q I h =>
 wpAny_Dict_empty ⟨.ref s.heap.objs.size,_,I.laid (a:=s.heap.objs.size) (o:=.dT []) (t':=s.toks) (fun _ _ q=>Heap.get?_push_of_some _ q) (Nat.le_refl _) (Zqu s.heap I.big),rfl,h _ (I.hok.fresh (Nat.le_refl _))⟩
end
structure M1(X:Cx)(o:Expr)(m:Str)(apos:Pos)(e:Expr)(cpos:Pos):Prop where
 base:attributeBase o m X.env (eval o X.env)=eval o X.env
 few:((backTo cpos (starEach [e] X.env)).all (fun x=>!x.1)&&(backToKw cpos (keywordEach [] X.env)).all (fun x=>x.1.isSome)
  && decide (([e]:List Expr).length+([]:List Keyword).length+(if([]:List Keyword).isEmpty then 0 else 1) < 30))=true
 line:(apos.endLine==cpos.line)=true
 trees:backTo cpos (starEach [e] X.env)=[(false,eval e X.env)]
structure M2(X:Cx)(o:Expr)(m:Str)(apos:Pos)(e f:Expr)(cpos:Pos):Prop where
 base:attributeBase o m X.env (eval o X.env)=eval o X.env
 few:((backTo cpos (starEach [e,f] X.env)).all (fun x=>!x.1)&&(backToKw cpos (keywordEach [] X.env)).all (fun x=>x.1.isSome)
  && decide (([e,f]:List Expr).length+([]:List Keyword).length+(if([]:List Keyword).isEmpty then 0 else 1) < 30))=true
 line:(apos.endLine==cpos.line)=true
 trees:backTo cpos (starEach [e,f] X.env)=[(false,eval e X.env),(false,eval f X.env)]
def IsD(H:Hp)(a:Addr):Prop:=(∃kvs,Rd H a (.dK kvs))\/∃kvs,Rd H a (.dT kvs)
theorem ZkU{X:Cx}{pins:List (Addr×Obj)}{σ:St}{H:Hp}{s:Shared}{a:Addr}(I:Inv X pins σ H s)(d:IsD H a) :
  s.TypeIs (.ref a) "dict"/\(∀b,Value.ref a=.ref b->∃ob,s.heap.get? b=some ob/\ob.dict=none)/\(a==sysModules)=false:=by
 rcases d with⟨kvs,e⟩|⟨kvs,e⟩
 ·obtain⟨_,hd,vs,_,dd⟩:=ZcO I.hok e;refine⟨dd.typeIs,fun b q=>?_,hd⟩;cases q;obtain⟨ob,_,_,h1,h2,_⟩:=dd;exact⟨ob,h1,h2.2.1⟩
 ·obtain⟨_,hd,xs,_,dd⟩:=Zdr I.hok e;refine⟨dd.typeIs,fun b q=>?_,hd⟩;cases q;obtain⟨ob,_,_,h1,h2,_⟩:=dd;exact⟨ob,h1,h2.2.1⟩
section
variable{X:Cx}{pins:List (Addr×Obj)}{σ:St}{H:Hp}{s:Shared}{a:Addr}{y d:V}{u r:Value}{o:Option V}{A:Around}{E:Value->Shared->Prop}
theorem Zqy{Q:Value->Shared->Prop}(hu:A.units+1 < cLine)(I:Inv X pins σ H s)(g:Zas H a y o)(ry:RelV y u)(h:∀w' s',Inv X pins σ H s'->RelV (o.getD .non) w'->Q w' s') :
  wpAny (model X.prog X.w) A (call (.builtin "dict.get") [.ref a,u]) Q E s:=by
 rcases g with⟨kvs,k,e,ey,l⟩|⟨kvs,k,b,e,ey,eb,l⟩
 ·subst ey;obtain⟨z,hd,vs,rel,dd⟩:=ZcO I.hok e;refine call_meetsIn PySem.F.slot_dict_get dd.typeIs PySem.F.entry_dict_get (PySem.F.args_dict_get_2 _ _) (meets_dict_get (ZaG X.prog X.w) a (Zcr ry) hd) ⟨_,dd.mapOf,h _ _ (I.tok _) ?_⟩;rw[l];exact(rel.val k).getD rfl
 ·subst ey;cases(show u=Value.ref b from ry);obtain⟨z,hd,xs,rel,dd⟩:=Zdr I.hok e;refine call_meetsIn PySem.F.slot_dict_get dd.typeIs PySem.F.entry_dict_get (PySem.F.args_dict_get_2 _ _) (meetsH_dict_get (tupleKind (ZaG X.prog X.w)) a b hd) ⟨tupleKind_room_in1 hu,k,xs,Zd1 I.hok eb,dd,h _ _ (I.tok _) ?_⟩;rw[l];exact(rel.val k).getD rfl
end
def Zqz(td ty:TE):TE:=fun σ H Q=>td σ H fun x H1=>∃a,x=.ref a/\IsD H1 a/\ty σ H1 fun y H2=>∃o,Zas H2 a y o/\Q (o.getD .non) H2
section
variable{X:Cx}{o e f:Expr}{apos cpos:Pos}{td ty tx:TE}
theorem ZqA(hu:X.A.units+1 < cLine)(ho:PE X o td)(he:PE X e ty)(m:M1 X o "get" apos e cpos):PE X (.Call (.Attribute o "get" apos) [e] [] cpos) (Zqz td ty):=by
 intro pins s σ H Q I h;refine wpAny_Call_method m.base m.few m.line PySem.F.plainAttrs_dict PySem.F.slot_dict_get PySem.F.type_dict_get (thn (ho pins s σ H _ I h) fun u s1 ⟨x,H1,I1,rx,a,ex,d,q1⟩=>?_);subst ex;obtain rfl:u=Value.ref a:=rx;obtain⟨t1,t2,_⟩:=ZkU I1 d;refine⟨t1,t2,?_⟩;rw[m.trees];refine Calls.callWith_builtin rfl (Calls.evalArgs_plain (Calls.spliced_cons (thn (he pins s1 σ H1 _ I1 q1) fun iv s2 ⟨y,H2,I2,ry,ov,g,q2⟩=>Calls.spliced_nil ?_)));exact Zqy hu I2 g ry fun w' s3 I3 rw'=>⟨_,H2,I3,rw',q2⟩
end
section
variable{X:Cx}{pins:List (Addr×Obj)}{σ:St}{H:Hp}{s:Shared}{a:Addr}{kvs:List (Key×V)}{A:Around}{E:Value->Shared->Prop}
end
section
variable{X:Cx}{pins:List (Addr×Obj)}{σ:St}{H:Hp}{s:Shared}{a:Addr}{y:V}{u:Value}{A:Around}{E:Value->Shared->Prop}
end
end L2
namespace L2
open PySem PySem.Spec PyProof.Rows
section
variable{prog:Program}{w:World}{A:Around}{E:Value->Shared->Prop}
end
section
variable{X:Cx}
end
end L2
namespace L2
open PySem PySem.Spec PyProof.Rows
section
variable{X:Cx}{pins:List (Addr×Obj)}{σ:St}{H:Hp}{s:Shared}{h':Heap}
theorem Inv.ZqB{t':Nat}{ch:List Addr}(I:Inv X pins σ H s)(k:∀b o,b∉ch->s.heap.get? b=some o->h'.get? b=some o)(hf:∀b∈ch,ZbC X pins H b):Inv X pins σ H { s with heap:=h',toks:=t' }:=by
 have nit:∀b u,H b=some u->b∉ch:=fun b u e z=>by
  have q:=(hf b z).1;rw[q] at e;cases e
 refine I.step (g':=s.gens) (d':=s.drawn) (ch:=ch) (fun b hb=>⟨(hf b hb).2.2.2.1,(hf b hb).2.1,(hf b hb).2.2.2.2.1,(hf b hb).2.2.2.2.2⟩) (fun b o _ _ hc e _=>k b o hc e) (fun b o _ _ hc e _=>⟨o.slots,k b o hc e⟩)
  (fun _ _ _ _ n=>n) (fun b o hc e=>⟨o,k b o hc e⟩) (fun _ _ e=>e) (fun _ _ _ e=>e) (fun b ps e=>⟨#[],by rw[e];simp⟩) (fun m hm=>?_) (fun b u e=>?_) I.bare
 ·obtain⟨o,es,ep,ho,r⟩:=hm;exact⟨o,es,ep,k _ o (fun z=>(hf _ z).2.1 rfl) ho,r⟩
 ·refine(I.hok b u e).Zbw (fun c v hc q=>k c v ?_ q) (fun _ q=>q) fun _ _ q=>q;rcases hc with z|z
  ·rw[z];exact nit b u e
  ·exact nit c _ z
theorem Inv.Zhq{t':Nat}{ch:List Addr}{T:Addr}{ob:HO}(I:Inv X pins σ H s)(k:∀b o,b∉ch->s.heap.get? b=some o->h'.get? b=some o)(hf:∀b∈ch,ZbC X pins H b)(hT:s.heap.objs.size<=T)
  (new:Zac X.prog X.w (upd H T ob) h' T ob):Inv X pins σ (upd H T ob) { s with heap:=h',toks:=t' }:=by
 have hn:H T=none:=I.hok.fresh hT;have nit:∀b u,H b=some u->b∉ch:=fun b u e z=>by
  have q:=(hf b z).1;rw[q] at e;cases e
 refine I.step (g':=s.gens) (d':=s.drawn) (ch:=ch) (fun b hb=>⟨(hf b hb).2.2.2.1,(hf b hb).2.1,(hf b hb).2.2.2.2.1,(hf b hb).2.2.2.2.2⟩) (fun b o _ _ hc e _=>k b o hc e) (fun b o _ _ hc e _=>⟨o.slots,k b o hc e⟩)
  (fun b o _ e n=>?_) (fun b o hc e=>⟨o,k b o hc e⟩) (fun b xs e=>?_) (fun b o u e=>?_) (fun b ps e=>⟨#[],?_⟩) (fun m hm=>?_) (fun b u e=>?_) I.bare
 ·rw[Zf (Nat.ne_of_lt (Nat.lt_of_lt_of_le (Heap.lt_size e) hT))];exact n
 ·rw[Zf (Zk e hn)];exact e
 ·rw[Zf (Zk e hn)];exact e
 ·rw[Zf (Zk e hn),e];simp
 ·obtain⟨o,es,ep,ho,r⟩:=hm;exact⟨o,es,ep,k _ o (fun z=>(hf _ z).2.1 rfl) ho,r⟩
 ·by_cases hb:b=T
  ·subst hb;rw[Zd] at e;cases e;exact new
  ·rw[Zf hb] at e;refine(I.hok b u e).Zbw (fun c v hc q=>k c v ?_ q) (fun c q=>by rw[Zf (Zk q hn)];exact q) fun c xs q=>by rw[Zf (Zk q hn)];exact q
   rcases hc with z|z
   ·rw[z];exact nit b u e
   ·exact nit c _ z
theorem Inv.lock{d:Addr}{u:HO}(I:Inv X pins σ H s)(h:H d=some u)(mu:Mut (some u)):∃od,Inv X pins σ (upd H d (.frz od u)) s:=by
 have x:=I.hok d u h;have ex:∃od,s.heap.get? d=some od:=by
  cases u with
  |lst xs=>obtain⟨_,_,_,_,e⟩:=x;exact⟨_,e⟩
  |dK kvs=>obtain⟨_,_,_,_,o,_,_,e,_⟩:=x;exact⟨o,e⟩
  |dT kvs=>obtain⟨_,_,_,_,o,_,_,e,_⟩:=x;exact⟨o,e⟩
  |set S n=>obtain⟨o,_,_,_,e,_⟩:=x;exact⟨o,e⟩
  |ins C dx fs=>obtain⟨_,_,_,e,_⟩:=x;exact⟨_,e⟩
  |ext φ=>obtain⟨_,⟨_,e⟩,_⟩:=x;exact⟨_,e⟩
  |_=>exact False.elim mu
 obtain⟨od,e⟩:=ex;have new:Zac X.prog X.w (upd H d (.frz od u)) s.heap d (.frz od u):=by
  refine⟨e,x.Zbw (fun b v _ q=>q) (fun b q=>?_) fun b xs q=>?_⟩
  ·rw[Zf (fun z=>by rw[z,h] at q;cases q;exact mu)];exact q
  ·rw[Zf (fun z=>by rw[z,h] at q;cases q;exact mu)];exact q
 exact⟨od,I.write (x:=d) (e:=d) (t':=s.toks) (h':=s.heap) (by rw[h];exact mu) (.inl rfl) (fun b v _ q=>q) ⟨od,e⟩ new⟩
theorem Inv.ZeM{d:Addr}{u:HO}(I:Inv X pins σ H s)(h:H d=some u)(mu:Mut (some u)):∀o' u',X.H_0 d≠some (.frz o' u'):=fun o' u' e=>by
 have q:=I.base.Zbk d o' u' e;rw[h] at q;cases q;exact mu
theorem Inv.unlock{d:Addr}{od:Obj}{u:HO}(I:Inv X pins σ H s)(h:H d=some (.frz od u))(hn:∀o' u',X.H_0 d≠some (.frz o' u')):Inv X pins σ (upd H d u) s:=by
 have neH:∀b o,H b=some o->(∀o' u',o≠.frz o' u')->b≠d:=fun b o e hne z=>by
  rw[z,h] at e;cases e;exact hne _ _ rfl
 have neN:∀b,H b=none->b≠d:=fun b e z=>by rw[z,h] at e;cases e
 refine⟨I.ok,I.os,I.bare,⟨I.base.keep,I.base.slot,fun b o e n hx=>?_,I.base.there,fun b xs e=>?_,fun b o x e=>?_,fun b ps e=>?_⟩,I.loc,I.cell,?_,fun x c e=>?_,fun p hp=>?_,fun b o e=>?_,I.len⟩
 ·rw[Zf (neN b (I.base.free b o e n hx))];exact I.base.free b o e n hx
 ·have q:=I.base.Zbx b xs e;rw[Zf (neH b _ q (fun _ _ z=>nomatch z))];exact q
 ·have q:=I.base.Zbk b o x e;rw[Zf (fun z=>by rw[z] at e;exact hn _ _ e)];exact q
 ·obtain⟨m,q⟩:=I.base.Zby b ps e;exact⟨m,by rw[Zf (neH b _ q (fun _ _ z=>nomatch z))];exact q⟩
 ·rw[Zf (neN _ I.free)];exact I.free
 ·rw[Zf (neN c (I.Za0 x c e))];exact I.Za0 x c e
 ·obtain⟨e,n,r⟩:=I.pin p hp;exact⟨e,by rw[Zf (neN _ n)];exact n,r⟩
 ·by_cases hb:b=d
  ·rw[hb,Zd] at e;cases e;rw[hb];obtain⟨_,x⟩:=I.hok d _ h;exact x.Zbw (fun c v _ q=>q) (fun c q=>by rw[Zf (neH c _ q (fun _ _ z=>nomatch z))];exact q) fun c xs q=>by rw[Zf (neH c _ q (fun _ _ z=>nomatch z))];exact q
  ·rw[Zf hb] at e;exact(I.hok b o e).Zbw (fun c v _ q=>q) (fun c q=>by rw[Zf (neH c _ q (fun _ _ z=>nomatch z))];exact q) fun c xs q=>by rw[Zf (neH c _ q (fun _ _ z=>nomatch z))];exact q
end
def ZqC(t:TS):TS:=fun D σ H=>∃d u,H d=some u/\Mut (some u)/\∀od,t ⟨fun σ' H'=>H' d=some (.frz od u)/\D.nx σ' (upd H' d u),fun v H'=>H' d=some (.frz od u)/\D.rt v (upd H' d u),fun σ' H'=>H' d=some (.frz od u)/\D.bk σ' (upd H' d u),fun σ' H'=>H' d=some (.frz od u)/\D.ct σ' (upd H' d u)⟩ σ (upd H d (.frz od u))
def ZqD(t:TE):TE:=fun σ H Q=>∃d u,H d=some u/\Mut (some u)/\∀od,t σ (upd H d (.frz od u)) fun v H'=>H' d=some (.frz od u)/\Q v (upd H' d u)
section
variable{X:Cx}
theorem ZqE{st:Stmt}{t:TS}(h:PS X st t):PS X st (ZqC t):=by
 intro pins s σ H D I hw;obtain⟨d,u,hd,mu,hw⟩:=hw;obtain⟨od,I1⟩:=I.lock hd mu;refine thn (h pins s σ _ _ I1 (hw od)) fun f s1 q=>?_;cases f with
 |next=>obtain⟨σ',H',I2,e,q⟩:=q;exact⟨σ',_,I2.unlock e (I.ZeM hd mu),q⟩
 |brk=>obtain⟨σ',H',I2,e,q⟩:=q;exact⟨σ',_,I2.unlock e (I.ZeM hd mu),q⟩
 |cont=>obtain⟨σ',H',I2,e,q⟩:=q;exact⟨σ',_,I2.unlock e (I.ZeM hd mu),q⟩
 |ret v=>obtain⟨x,σ',H',I2,r,e,q⟩:=q;exact⟨x,σ',_,I2.unlock e (I.ZeM hd mu),r,q⟩
theorem ZqF{e:Expr}{t:TE}(h:PE X e t):PE X e (ZqD t):=by
 intro pins s σ H Q I hw;obtain⟨d,u,hd,mu,hw⟩:=hw;obtain⟨od,I1⟩:=I.lock hd mu;refine thn (h pins s σ _ _ I1 (hw od)) fun v s1 ⟨x,H1,I2,r,e2,q⟩=>?_;exact⟨x,_,I2.unlock e2 (I.ZeM hd mu),r,q⟩
theorem ZkV{tg:Expr}{pins:List (Addr×Obj)}{σ:St}{H:Hp}{s:Shared}{R:It->Hp->Prop}{J:It}{tn:Nat->Heap->Prop}{tk:Nat}(I:Inv X pins σ H s)(o:Obj)
  (T:Turn X.prog X.w X.K tg J [s.heap.objs.size] s.heap.objs.size tn) (st:tn 0 (s.heap.push o)) (q:R J H):PIE X pins σ tg R (.ref s.heap.objs.size) { s with heap:=s.heap.push o,toks:=tk }:=by
 refine⟨s.heap.objs.size,[s.heap.objs.size],tn,J,H,rfl,I.kept fun b ob e=>Heap.get?_push_of_some _ e,T,st,fun b hb=>?_,q⟩;have e:b=s.heap.objs.size:=by simpa using hb
 subst e;exact I.ZeC (Nat.le_refl _) (I.hok.fresh (Nat.le_refl _))
end
section
variable{X:Cx}{tg:Expr}
end
section
variable{X:Cx}{tg:Expr}
end
section
variable{prog:Program}{w:World}{A:Around}{E:Value->Shared->Prop}{s:Shared}
theorem ZqG{d:Addr}{o:Obj}{es:Array DictEntry}{ep:Nat}{Q:Value->Shared->Prop}(hd:(d==sysModules)=false)(ho:s.heap.get? d=some o)(hc:o.ExactDict)(hdat:o.data=.dict es ep)
  (hQ:Q (.ref s.heap.objs.size) { s with heap:=s.heap.push { cls:=.type "dict_keyiterator",data:=.fields #[.ref d,.int 0 0,.int es.size 0,.int ep 0] } }) :
  wpAny (model prog w) A (pyIter (.ref d)) Q E s:=by
 have hT:s.TypeIs (.ref d) "dict":=⟨o,ho,hc.1⟩
 refine wpAny_pyIter_slot hT F.slot_dict_iter (wpAny_call_entry F.slot_dict_iter hT F.entry_dict_iter ?_ (F.args_dict_iter_1 _));unfold Builtin.«dict.__iter__»;refine wpAny_bind ?_;unfold Builtin.Dict.dictSlotNone;refine wpAny_bind (wpAny_notOrdered_dict hT ?_);show wpAny _ _ (pure (Value.ref d)) _ _ s;refine wpAny_pure ?_;show wpAny _ _ (Builtin.Dict.showsAll d >>= _) _ _ s;unfold Builtin.Dict.showsAll;rw[if_neg (by rw[hd];exact Bool.false_ne_true)];refine wpAny_bind (wpAny_pure ?_);refine wpAny_bind (wpAny_dictEntries ho hdat ?_);refine wpAny_bind (wpAny_dictEpoch ho hdat ?_);refine wpAny_bind (wpAny_newObj_type (wpAny_pure ⟨_,rfl,"dict_keyiterator",_,⟨_,Heap.get?_push_size _ rfl,rfl⟩,F.slot_dict_keyiterator_next.lookup,?_⟩));simpa[rawInt] using hQ
theorem ZqH{it d:Addr}{i n ep:Nat}{od:Obj}{es:Array DictEntry}{Q:Option Value->Shared->Prop}(hh:A.handled=none)(hit:s.heap.IsKeyIter it d i n ep)(hod:s.heap.get? d=some od)(hdd:od.data=.dict es ep)
  (hsz:es.size=n) (hge:n<=i) (hQ:∀h',Heap.ExtBut it s.heap h'->Q none { s with heap:=h' }):wpAny (model prog w) A (pyNext (.ref it)) Q E s:=by
 obtain⟨o,ho,hc,hd⟩:=id hit;unfold pyNext;refine wpAny_bind (wpAny_attempt (wpAny_callSpecial?_slot (name:=Str.ofString "__next__") hit.typeIs F.slot_dict_keyiterator_next
  (wpAny_call_entry F.slot_dict_keyiterator_next hit.typeIs F.entry_dict_keyiterator_next ?_ (F.args_dict_keyiterator_next_1 _))))
 refine wpAny_bind (wpAny_pure ?_);refine wpAny_bind ?_;refine wpAny_bind ?_;first|refine wpAny_bind (wpAny_typeNameOfWhole_keyiter hit.typeIs (wpAny_pure ?_))|refine wpAny_bind (wpAny_typeNameOf_keyiter hit.typeIs (wpAny_pure ?_))
 refine wpAny_bind (wpAny_fieldsOf ho hd ?_);have hown:Builtin.Dict_items.ownsTuple "dict_keyiterator"=false:=by decide
 simp only[hown,Bool.false_eq_true,if_false];show wpAny _ _ (if(Value.ref d==Value.none)=true then _ else _) _ _ s;rw[if_neg (show¬((Value.ref d==Value.none)=true) from Bool.false_ne_true)];refine wpAny_bind (wpAny_pure ?_);refine wpAny_bind (wpAny_dictEntries hod hdd ?_);rw[if_neg (by rw[hsz];simp)];refine wpAny_bind (wpAny_pure ?_);refine wpAny_bind (wpAny_dictEpoch hod hdd ?_);rw[if_neg (by simp)];refine wpAny_pure ?_;have hge':es.size<=i:=by rw[hsz];exact hge
 simp only[show¬((i:Int) < 0) from by omega,if_false,Int.toNat_natCast,Array.getElem?_eq_none hge'];refine wpAny_bind ?_;first|refine wpAny_bind (wpAny_typeNameOfWhole_keyiter hit.typeIs (wpAny_pure ?_))|refine wpAny_bind (wpAny_typeNameOf_keyiter hit.typeIs (wpAny_pure ?_))
 show wpAny _ _ (setField (.ref it) 0 .none >>= _) _ _ s;refine wpAny_bind (wpAny_setField ho hd (by simp) ?_);show wpAny _ _ (newExc (.type "StopIteration") [] >>= _) _ _ _;refine wpAny_bind ?_;simp only[newExc,newTuple];refine wpAny_bind (wpAny_newObj_type ?_ (by size_fits));refine wpAny_bind (m:=firstArgMember _ _) (wpAny_of_eq (a:=Value.none) (by first|rfl|(simp only[firstArgMember];rfl)) ?_);refine wpAny_newObj_type ?_ (by size_fits);simp only[raiseNew];refine wpAny_bind (wpAny_handled ?_);rw[show A.in1.handled=none from hh];refine wpAny_bind (wpAny_pure (wpAny_throw ?_));refine wpAny_bind (wpAny_isInstance (T:="StopIteration") (b:=true) ⟨_,Heap.get?_push_size _ rfl,rfl⟩ isSubtype_stop ?_);exact wpAny_pure (hQ _ (((Heap.SameBut.update ..).extBut.push _).push _))
end
theorem ZkW{κ:Type}{kvs:List (κ×V)}{vs:List (κ×Value)}(h:KV kvs vs):∀{i:Nat}{k:κ}{v:V},kvs[i]?=some (k,v)->∃u,vs[i]?=some (k,u)/\RelV v u:=by
 unfold KV at h;induction h with
 |nil=>intro i k v e;simp at e
 |@cons a b l₁ l₂ r t ih =>
  intro i k v e;cases i with
  |zero =>
   simp only[List.getElem?_cons_zero,Option.some.injEq] at e;subst e;refine⟨b.2,?_,r.2⟩;simp only[List.getElem?_cons_zero];exact congrArg some (Prod.ext r.1.symm rfl)
  |succ j =>
   simp only[List.getElem?_cons_succ] at e ⊢;exact ih e
theorem ZkX{k:Key}{u:Value}(h:Zcn k u=true):RelV (kV k) u:=by
 rcases Zb3 h with⟨i,t,rfl,rfl⟩|⟨x,t,rfl,rfl⟩
 ·exact⟨t,rfl⟩
 ·exact⟨t,rfl⟩
section
variable{X:Cx}{pins:List (Addr×Obj)}{σ:St}{H:Hp}{s:Shared}{d:Addr}{o:Obj}
theorem Inv.Zd2{kvs:List (Key×V)}(I:Inv X pins σ H s)(h:H d=some (.frz o (.dK kvs))) :
  (d==sysModules)=false/\s.heap.get? d=some o/\o.ExactDict/\∃(es:Array DictEntry)(ep:Nat)(vs:List (Key×Value)),o.data=.dict es ep/\es.size=kvs.length/\KV kvs vs/\s.heap.DictAt (ZaG X.prog X.w) d vs ep:=by
 obtain⟨hd,z,hs,vs,kv,o',es,ep,ho,hx,hdt,r⟩:=I.hok d _ h;rw[hd] at ho;cases ho;refine⟨hs,hd,hx,es,ep,vs,hdt,?_,kv,o,es,hd,hx,hdt,r⟩;have l1:=r.2.1.length;have l2:kvs.length=vs.length:=Paired.length kv;rw[Array.length_toList] at l1;omega
end
def Itk(d:Addr)(o:Obj)(kvs:List (Key×V)):It :=
 ⟨fun i H=>H d=some (.frz o (.dK kvs))/\i < kvs.length,fun i H x H'=>H'=H/\∃k v,kvs[i]?=some (k,v)/\x=kV k,fun i H=>H d=some (.frz o (.dK kvs))/\kvs.length<=i⟩
def Iti(d:Addr)(o:Obj)(kvs:List (Key×V)):It :=
 ⟨fun i H=>H d=some (.frz o (.dK kvs))/\i < kvs.length,fun i H x H'=>∃T k v,kvs[i]?=some (k,v)/\x=.ref T/\H T=none/\H'=upd H T (.tup [kV k,v]),fun i H=>H d=some (.frz o (.dK kvs))/\kvs.length<=i⟩
theorem ZfH{o:Obj}{es es':Array DictEntry}{ep ep':Nat}(h:o.data=.dict es ep)(h':o.data=.dict es' ep'):es'=es/\ep'=ep:=by
 rw[h] at h';cases h';exact⟨rfl,rfl⟩
section
variable{P:Program}{w:World}{K:PySem.W.Frag}{tg:Expr}{d:Addr}{o:Obj}{es:Array DictEntry}{ep:Nat}
theorem ZqI{kvs:List (Key×V)}(it:Addr)(hod:o.data=.dict es ep):Turn P w K tg (Itk d o kvs) [it] it (fun i h=>h.IsKeyIter it d i kvs.length ep) where
 mem:=by simp
 obj:=fun i h st b hb=>by
  have e:b=it:=by simpa using hb
  subst e;obtain⟨oi,e,c,dd⟩:=st;exact⟨oi,e,fun v z=>by rw[dd] at z;cases z⟩
 keep:=fun i h h' st k=>st.at fun oi e=>k it (by simp) oi e
 item:=by
  intro X hP hw hK hc i pins s σ H E I hf st hg;subst hP hw hK;obtain⟨hd,hi⟩:=hg;obtain⟨f0,f1,f2,f3,f4,f5⟩:=hf it (by simp);obtain⟨hs,hgd,hx,es',ep',vs,hdt,hsz,kv,hm⟩:=I.Zd2 hd;obtain⟨rfl,rfl⟩:=ZfH hod hdt;obtain⟨⟨k,v⟩,hkv⟩:∃p,kvs[i]?=some p:=⟨kvs[i],List.getElem?_eq_getElem hi⟩
  obtain⟨u,hu,ru⟩:=ZkW kv hkv;have hl:kvs.length=vs.length:=Paired.length kv;rw[hl] at st;refine wpAny_pyNext_dict_item st hm hu fun key h' hkey st' sb=>?_;have I1:Inv X pins σ H { s with heap:=h' }:=I.turned (t':=s.toks) (fun b ob hb e=>(sb.2 b hb).trans e) f0 f1 f3 f4 f5;obtain⟨oi,e,c,dd⟩:=id st';refine⟨key,rfl,Zj9 (s:={ s with heap:=h' }) e c dd (by decide) ⟨kV k,H,I1,ZkX (show Zcn k key=true from hkey),⟨rfl,k,v,hkv,rfl⟩,?_,fun b hb=>(hf b hb).1⟩⟩;show h'.IsKeyIter it d (i+1) kvs.length _;rw[hl];exact st'
 done:=by
  intro X hP hw hK hc i pins s σ H E I hf st hg;subst hP hw hK;obtain⟨hd,hi⟩:=hg;obtain⟨f0,f1,f2,f3,f4,f5⟩:=hf it (by simp);obtain⟨hs,hgd,hx,es',ep',vs,hdt,hsz,kv,hm⟩:=I.Zd2 hd;obtain⟨rfl,rfl⟩:=ZfH hod hdt;exact ZqH (I.ok.hd hc) st hgd hdt hsz hi fun h' eb=>⟨rfl,I.turned (t':=s.toks) (fun b ob hb e=>eb b ob hb e) f0 f1 f3 f4 f5⟩
 self:=fun A i s Q E st h=>wpAny_pyIter_keyiter st h
theorem ZqJ{kvs:List (Key×V)}{elts:List Expr}{kk:Nat}{tpos:Pos}(it:Addr)(hod:o.data=.dict es ep) :
  Turn P w K (.Tuple elts kk tpos) (Iti d o kvs) [it] it (fun i h=>∃ok ov,IsItemIter h it d i kvs.length ep ok ov) where
 mem:=by simp
 obj:=fun i h st b hb=>by
  have e:b=it:=by simpa using hb
  subst e;obtain⟨ok,ov,e⟩:=st;exact⟨_,e,fun v z=>nomatch z⟩
 keep:=fun i h h' st k=>let ⟨ok,ov,e⟩:=st;⟨ok,ov,k it (by simp) _ e⟩
 item:=by
  intro X hP hw hK hc i pins s σ H E I hf st hg;subst hP hw hK;obtain⟨hd,hi⟩:=hg;obtain⟨hs,hgd,hx,es',ep',vs,hdt,hsz,kv,hm⟩:=I.Zd2 hd;obtain⟨rfl,rfl⟩:=ZfH hod hdt;obtain⟨⟨k,v⟩,hkv⟩:∃p,kvs[i]?=some p:=⟨kvs[i],List.getElem?_eq_getElem hi⟩
  obtain⟨u,hu,ru⟩:=ZkW kv hkv;have hl:kvs.length=vs.length:=Paired.length kv;obtain⟨ok,ov,he⟩:=st;rw[hl] at he;have hlt:it < s.heap.objs.size:=Heap.lt_size he;refine wpAny_pyNext_items_item he hm hu fun key h' hkey ho hT hz hk=>?_;refine⟨_,rfl,wpAny_letOwnedTupleGo_items (s:={ s with heap:=h' }) ho fun h'' he' sb=>?_⟩;have hT2:h''.get? s.heap.objs.size=some { cls:=.type "tuple",data:=.seq #[key,u] }:=(sb.2 _ (Nat.ne_of_gt hlt)).trans hT;have new:Zac X.prog X.w (upd H s.heap.objs.size (.tup [kV k,v])) h'' s.heap.objs.size (.tup [kV k,v]) :=
   ⟨by show 2<=sizeLine;decide,[key,u],.cons (ZkX (show Zcn k key=true from hkey)) (.cons ru .nil),⟨_,hT2,rfl,_,rfl⟩⟩
  have I1:Inv X pins σ (upd H s.heap.objs.size (.tup [kV k,v])) { s with heap:=h'' } :=
   I.Zhq (t':=s.toks) (ch:=[it]) (fun b ob hb e=>(sb.2 b (by simpa using hb)).trans (hk b ob (by simpa using hb) e)) hf (Nat.le_refl _) new
  refine⟨.ref s.heap.objs.size,_,I1,rfl,⟨_,k,v,hkv,rfl,I.hok.fresh (Nat.le_refl _),rfl⟩,⟨key,u,?_⟩,fun b hb=>?_⟩
  ·rw[hl];exact he'
  ·have e:b=it:=by simpa using hb
   rw[e,Zf (Nat.ne_of_lt hlt)];exact(hf it (by simp)).1
 done:=by
  intro X hP hw hK hc i pins s σ H E I hf st hg;subst hP hw hK;obtain⟨hd,hi⟩:=hg;obtain⟨f0,f1,f2,f3,f4,f5⟩:=hf it (by simp);obtain⟨hs,hgd,hx,es',ep',vs,hdt,hsz,kv,hm⟩:=I.Zd2 hd;obtain⟨rfl,rfl⟩:=ZfH hod hdt;have hl:kvs.length=vs.length:=Paired.length kv;obtain⟨ok,ov,he⟩:=st;rw[hl] at he;exact wpAny_pyNext_items_end (I.ok.hd hc) he hm (List.getElem?_eq_none (by omega)) fun h' eb=>⟨rfl,I.turned (t':=s.toks) (fun b ob hb e=>eb b ob hb e) f0 f1 f3 f4 f5⟩
 self:=fun A i s Q E st h=>let ⟨_,_,e⟩:=st;PySem.W.kcp_self e h
end
inductive ZqK(x:V)(H1:Hp)(R:It->Hp->Prop):Prop
 |mk (d o kvs) (_:x=.ref d) (_:H1 d=some (.frz o (.dK kvs))) (_:R (Iti d o kvs) H1)
def ZqL(td:TE):TI:=fun σ H R=>td σ H fun x H1=>ZqK x H1 R
section
variable{X:Cx}{tg e:Expr}{td:TE}{apos cpos:Pos}
theorem ZqM{elts:List Expr}{kk:Nat}{tpos:Pos}(he:PE X e td)(hbase:attributeBase e "items" X.env (eval e X.env)=eval e X.env:=by rfl)(hline:(apos.endLine==cpos.line)=true:=by rfl) :
  PI X (.Tuple elts kk tpos) (.Call (.Attribute e "items" apos) [] [] cpos) (ZqL td):=by
 intro pins s σ H R I h;refine wpAny_Call_method (T:="dict") (id:="dict.items") hbase rfl hline F.plainAttrs_dict F.slot_dict_items F.type_dict_items (thn (he pins s σ H _ I h) fun u s1 ⟨x,H1,I1,rx,d,o,kvs,ex,hd,q⟩=>?_);subst ex;obtain rfl:u=Value.ref d:=rx;obtain⟨hs,hgd,hx,es,ep,vs,hdt,hsz,kv,hm⟩:=I1.Zd2 hd;have hl:kvs.length=vs.length:=Paired.length kv;refine⟨hm.dictOf.typeIs,hm.dictOf.mapOf.noDict,?_⟩;have I2:Inv X pins σ H1 { s1 with heap:=s1.heap.push { cls:=.type "dict_items",data:=.fields #[.ref d] } }:=I1.kept (t':=s1.toks) fun b ob q=>Heap.get?_push_of_some _ q;have fin:wpAny (model X.prog X.w) X.A (pyIter (.ref s1.heap.objs.size)) (PIE X pins σ (.Tuple elts kk tpos) R) X.xe { s1 with heap:=s1.heap.push { cls:=.type "dict_items",data:=.fields #[.ref d] } }:=by
  refine wpAny_pyIter_items (d:=d) (knd:=ZaG X.prog X.w) ⟨_,Heap.get?_push_size _ rfl,rfl,rfl⟩ (hm.push _) (ZkV (tk:=s1.toks) I2 _ (ZqJ _ hdt) ⟨.none,.none,?_⟩ q);rw[hl];exact Heap.get?_push_size _ rfl
 show wpAny _ _ (callWith cpos (.builtin "dict.items") [.ref d] [] []) _ X.xe s1;exact method_meetsIn F.slot_dict_items F.entry_dict_items rfl (PySem.evalArgs_none ⟨rfl,hm.dictOf.typeIs,F.args_dict_items_1 _,_,meets_dict_items (ZaG X.prog X.w) d hs,⟨vs,hm.dictOf⟩,fin⟩)
end
def Ite(K:PySem.W.Frag)(a:Addr):It :=
 ⟨fun i H=>∃(xs:List V)(x:V),SqL K H a xs/\xs[i]?=some x,fun i H v H'=>∃T x,v=.ref T/\H T=none/\H'=upd H T (.tup [.int (i:Nat),x])/\∀xs,SqL K H a xs->xs[i]?=some x,fun i H=>∃xs:List V,SqL K H a xs/\xs.length<=i⟩
theorem ZqN{P:Program}{w:World}{K:PySem.W.Frag}{elts:List Expr}{kk:Nat}{tpos:Pos}(a e it:Addr) :
  Turn P w K (.Tuple elts kk tpos) (Ite K a) [e,it] e (fun i h=>(∃old,IsEnum h e it ((i:Nat):Int) old)/\h.IsListIter it a i/\e≠it) where
 mem:=by simp
 obj:=fun i h st b hb=>by
  obtain⟨⟨old,he⟩,⟨o,ho,hc,hd⟩,_⟩:=st;have e':b=e\/b=it:=by simpa using hb
  rcases e' with z|z
  ·rw[z];exact⟨_,he,fun v q=>nomatch q⟩
  ·rw[z];exact⟨o,ho,fun v q=>by rw[hd] at q;cases q⟩
 keep:=fun i h h' st k=>let ⟨⟨old,he⟩,hi,hne⟩:=st;⟨⟨old,k e (by simp) _ he⟩,hi.at fun o q=>k it (by simp) o q,hne⟩
 item:=by
  intro X hP hw hK hc i pins s σ H E I hf st hg;subst hP hw hK;obtain⟨⟨old,he⟩,hit,hne⟩:=st;obtain⟨xs,x,hq,hx⟩:=hg;obtain⟨its,rv,p,hz⟩:=I.list hq;obtain⟨u,hu,ru⟩:=rv.get hx;have hel:e < s.heap.objs.size:=Heap.lt_size he;have hil:it < s.heap.objs.size:=by obtain⟨_,q,_⟩:=hit;exact Heap.lt_size q
  refine wpAny_pyNext_enum_item he hit p.isList (x:=u) (by simpa using hu) hne fun h' ho hit' hT hsz hk=>?_;refine⟨_,rfl,wpAny_letOwnedTupleGo_enum (s:={ s with heap:=h',toks:=s.toks+1 }) ho fun h'' he' sb=>?_⟩;have hT2:h''.get? s.heap.objs.size=some { cls:=.type "tuple",data:=.seq #[.int i s.toks,u] }:=(sb.2 _ (Nat.ne_of_gt hel)).trans hT;have new:Zac X.prog X.w (upd H s.heap.objs.size (.tup [.int (i:Nat),x])) h'' s.heap.objs.size (.tup [.int (i:Nat),x]) :=
   ⟨by show 2<=sizeLine;decide,[.int i s.toks,u],.cons ⟨_,rfl⟩ (.cons ru .nil),⟨_,hT2,rfl,_,rfl⟩⟩
  have I1:Inv X pins σ (upd H s.heap.objs.size (.tup [.int (i:Nat),x])) { s with heap:=h'',toks:=s.toks+1 } :=
   I.Zhq (ch:=[e,it]) (fun b ob hb q=>(sb.2 b (fun z=>hb (by simp[z]))).trans (hk b ob (fun z=>hb (by simp[z])) (fun z=>hb (by simp[z])) q)) hf (Nat.le_refl _) new
  refine⟨.ref s.heap.objs.size,_,I1,rfl,⟨_,x,rfl,I.hok.fresh (Nat.le_refl _),rfl,fun ys hy=>by rw[I.Zfr hy hq];exact hx⟩,⟨⟨u,?_⟩,hit'.at fun o q=>(sb.2 it (Ne.symm hne)).trans q,hne⟩,fun b hb=>?_⟩
  ·have e1:((i+1:Nat):Int)=(i:Int)+1:=by omega
   rw[e1];exact he'
  ·have hb':b < s.heap.objs.size:=by
    have e':b=e\/b=it:=by simpa using hb
    rcases e' with z|z
    ·rw[z];exact hel
    ·rw[z];exact hil
   rw[Zf (Nat.ne_of_lt hb')];exact(hf b hb).1
 done:=by
  intro X hP hw hK hc i pins s σ H E I hf st hg;subst hP hw hK;obtain⟨⟨old,he⟩,hit,hne⟩:=st;obtain⟨xs,hq,hx⟩:=hg;obtain⟨its,rv,p,hz⟩:=I.list hq;obtain⟨f0,f1,f2,f3,f4,f5⟩:=hf it (by simp);have hl:=rv.length;exact wpAny_pyNext_enum_end (I.ok.hd hc) he hit p.isList (by simp;omega) fun h' eb=>⟨rfl,I.turned (t':=s.toks) (fun b o hb q=>eb b o hb q) f0 f1 f3 f4 f5⟩
 self:=fun A i s Q E st h=>let ⟨⟨_,he⟩,_⟩:=st;wpAny_pyIter_enum he h
inductive ZqO(K:PySem.W.Frag)(vs:List V)(H1:Hp)(R:It->Hp->Prop):Prop
 |mk (a xs) (_:vs=[.ref a]) (_:SqL K H1 a xs) (_:R (Ite K a) H1)
def ZqP(K:PySem.W.Frag)(ta:TA):TI:=fun σ H R=>ta σ H fun vs H1=>ZqO K vs H1 R
theorem ZeN{X:Cx}{e:Expr}{ta:TA}{p pos tpos:Pos}{elts:List Expr}{kk:Nat}(hg:Gl X "enumerate")(hm:X.mg "enumerate"=none)(ha:PA X [e] ta)(hs:starEach [e] X.env=[(false,eval e X.env)]:=by rfl) :
  PI X (.Tuple elts kk tpos) (.Call (.Name "enumerate" p) [e] [] pos) (ZqP X.K ta):=by
 intro pins s σ H R I h;refine Call_ (Zfp I hg hm boot_enumerate (PyProof.Rows.callWith_type1 (thn (ha pos pins s σ H _ I h) fun us s1 ⟨vs,H1,I1,r1,q1⟩=>?_) hs rfl));obtain⟨a,xs,ex,hq,q⟩:=q1;subst ex;cases r1 with
 |cons r rr =>
  cases rr;cases r;obtain⟨its,rv,p',hz⟩:=I1.list hq;refine call_enumerate_list p'.isList fun h' he hit hsz hk=>wpAny_pyIter_enum he ?_;have I2:Inv X pins σ H1 { s1 with heap:=h' }:=I1.kept (t':=s1.toks) hk;refine⟨s1.heap.objs.size+1,[s1.heap.objs.size+1,s1.heap.objs.size],_,_,H1,rfl,I2,ZqN a (s1.heap.objs.size+1) s1.heap.objs.size,⟨⟨.none,he⟩,hit,Nat.succ_ne_self _⟩,fun b hb=>?_,q⟩;have e':b=s1.heap.objs.size+1\/b=s1.heap.objs.size:=by simpa using hb
  have hle:s1.heap.objs.size<=b:=by
   rcases e' with z|z
   ·rw[z];exact Nat.le_add_right _ _
   ·rw[z];exact Nat.le_refl _
  exact I1.ZeC hle (I1.hok.fresh hle)
theorem ZqQ:bootBuiltins "zip"=some (.type "zip"):=by decide +kernel
def Itz(K:PySem.W.Frag)(a b:Addr):It :=
 ⟨fun i H=>∃(xs ys:List V)(x y:V),SqL K H a xs/\SqL K H b ys/\xs[i]?=some x/\ys[i]?=some y,
  fun i H v H'=>∃T x y,v=.ref T/\H T=none/\H'=upd H T (.tup [x,y])/\(∀xs,SqL K H a xs->xs[i]?=some x)/\∀ys,SqL K H b ys->ys[i]?=some y,
  fun i H=>∃xs ys:List V,SqL K H a xs/\SqL K H b ys/\(xs.length<=i\/ys.length<=i)⟩
theorem ZqR{P:Program}{w:World}{K:PySem.W.Frag}{elts:List Expr}{kk:Nat}{tpos:Pos}{a b z TI TO i1 i2:Addr}(D:ZipApart z TI TO i1 i2 a b) :
  Turn P w K (.Tuple elts kk tpos) (Itz K a b) [z,TI,TO,i1,i2] z (fun i h=>IsZip h z TI TO .none/\IsPair h TI (.ref i1) (.ref i2)/\(∃x y,IsPair h TO x y)/\h.IsListIter i1 a i/\h.IsListIter i2 b i) where
 mem:=by simp
 obj:=fun i h st c hc=>by
  obtain⟨hz,hTI,⟨x,y,hTO⟩,⟨o1,e1,_,d1⟩,⟨o2,e2,_,d2⟩⟩:=st;have e':c=z\/c=TI\/c=TO\/c=i1\/c=i2:=by simpa using hc
  rcases e' with q|q|q|q|q
  ·rw[q];exact⟨_,hz,fun v q=>nomatch q⟩
  ·rw[q];exact⟨_,hTI,fun v q=>nomatch q⟩
  ·rw[q];exact⟨_,hTO,fun v q=>nomatch q⟩
  ·rw[q];exact⟨o1,e1,fun v q=>by rw[d1] at q;cases q⟩
  ·rw[q];exact⟨o2,e2,fun v q=>by rw[d2] at q;cases q⟩
 keep:=fun i h h' st k=>by
  obtain⟨hz,hTI,⟨x,y,hTO⟩,h1,h2⟩:=st;exact⟨k z (by simp) _ hz,k TI (by simp) _ hTI,⟨x,y,k TO (by simp) _ hTO⟩,h1.at fun o q=>k i1 (by simp) o q,h2.at fun o q=>k i2 (by simp) o q⟩
 item:=by
  intro X hP hw hK hc i pins s σ H E I hf st hg;subst hP hw hK;obtain⟨hz,hTI,⟨x0,y0,hTO⟩,h1,h2⟩:=st;obtain⟨xs,ys,x,y,hqx,hqy,hx,hy⟩:=hg;obtain⟨its,rv,p,_⟩:=I.list hqx;obtain⟨its2,rv2,p2,_⟩:=I.list hqy;obtain⟨u,hu,ru⟩:=rv.get hx;obtain⟨u2,hu2,ru2⟩:=rv2.get hy;have hzl:z < s.heap.objs.size:=Heap.lt_size hz;refine wpAny_pyNext_zip_item D hz hTI hTO h1 h2 p.isList p2.isList (x:=u) (y:=u2) (by simpa using hu) (by simpa using hu2) fun h' z' TO' h1' h2' hT hsz hk=>?_;refine⟨_,rfl,wpAny_letOwnedTupleGo_zip (s:={ s with heap:=h' }) z' fun h'' z'' sb=>?_⟩;have hT2:h''.get? s.heap.objs.size=some { cls:=.type "tuple",data:=.seq #[u,u2] }:=(sb.2 _ (Nat.ne_of_gt hzl)).trans hT;have new:Zac X.prog X.w (upd H s.heap.objs.size (.tup [x,y])) h'' s.heap.objs.size (.tup [x,y]) :=
   ⟨by show 2<=sizeLine;decide,[u,u2],.cons ru (.cons ru2 .nil),⟨_,hT2,rfl,_,rfl⟩⟩
  have I1:Inv X pins σ (upd H s.heap.objs.size (.tup [x,y])) { s with heap:=h'' } :=
   I.Zhq (t':=s.toks) (ch:=[z,TI,TO,i1,i2]) (fun c o hb q=>(sb.2 c (fun q'=>hb (by simp[q']))).trans (hk c o (fun q'=>hb (by simp[q'])) (fun q'=>hb (by simp[q'])) (fun q'=>hb (by simp[q'])) (fun q'=>hb (by simp[q'])) q)) hf (Nat.le_refl _) new
  refine⟨.ref s.heap.objs.size,_,I1,rfl,⟨_,x,y,rfl,I.hok.fresh (Nat.le_refl _),rfl,fun l hl=>by rw[I.Zfr hl hqx];exact hx,fun l hl=>by rw[I.Zfr hl hqy];exact hy⟩,⟨z'',?_,⟨u,u2,?_⟩,?_,?_⟩,fun c hcm=>?_⟩
  ·exact(sb.2 _ D.TIz).trans (hk _ _ D.TIz D.TITO D.TIi1 D.TIi2 hTI)
  ·exact(sb.2 _ D.TOz).trans TO'
  ·exact h1'.at fun o q=>(sb.2 _ D.i1z).trans q
  ·exact h2'.at fun o q=>(sb.2 _ D.i2z).trans q
  ·have hlt:c < s.heap.objs.size:=by
    have e':c=z\/c=TI\/c=TO\/c=i1\/c=i2:=by simpa using hcm
    rcases e' with q|q|q|q|q
    ·rw[q];exact hzl
    ·rw[q];exact Heap.lt_size hTI
    ·rw[q];exact Heap.lt_size hTO
    ·rw[q];obtain⟨_,e1,_⟩:=h1;exact Heap.lt_size e1
    ·rw[q];obtain⟨_,e2,_⟩:=h2;exact Heap.lt_size e2
   rw[Zf (Nat.ne_of_lt hlt)];exact(hf c hcm).1
 done:=by
  intro X hP hw hK hc i pins s σ H E I hf st hg;subst hP hw hK;obtain⟨hz,hTI,⟨x0,y0,hTO⟩,h1,h2⟩:=st;obtain⟨xs,ys,hqx,hqy,hend⟩:=hg;obtain⟨its,rv,p,_⟩:=I.list hqx;obtain⟨its2,rv2,p2,_⟩:=I.list hqy;have l1:=rv.length;have l2:=rv2.length;have he:its.toArray[i]?=none\/its2.toArray[i]?=none:=by
   rcases hend with q|q
   ·exact .inl (by simp;omega)
   ·exact .inr (by simp;omega)
  exact wpAny_pyNext_zip_end (I.ok.hd hc) D hz hTI hTO h1 h2 p.isList p2.isList he fun h' hk=>⟨rfl,I.ZqB (t':=s.toks) (ch:=[z,TI,TO,i1,i2]) (fun c o hb q =>
   hk c o (fun q'=>hb (by simp[q'])) (fun q'=>hb (by simp[q'])) (fun q'=>hb (by simp[q'])) (fun q'=>hb (by simp[q'])) q) hf⟩
 self:=fun A i s Q E st h=>wpAny_pyIter_zip st.1 h
inductive ZqS(K:PySem.W.Frag)(vs:List V)(H1:Hp)(R:It->Hp->Prop):Prop
 |mk (a b xs ys) (_:vs=[.ref a,.ref b]) (_:SqL K H1 a xs) (_:SqL K H1 b ys) (_:R (Itz K a b) H1)
def ZqT(K:PySem.W.Frag)(ta:TA):TI:=fun σ H R=>ta σ H fun vs H1=>ZqS K vs H1 R
theorem ZqU{X:Cx}{e e2:Expr}{ta:TA}{p pos tpos:Pos}{elts:List Expr}{kk:Nat}(hg:Gl X "zip")(hm:X.mg "zip"=none)(ha:PA X [e,e2] ta)
  (hs:starEach [e,e2] X.env=(false,eval e X.env)::starEach [e2] X.env:=by rfl) (hpl:(backTo pos (starEach [e2] X.env)).any (·.1)=false:=by rfl) :
  PI X (.Tuple elts kk tpos) (.Call (.Name "zip" p) [e,e2] [] pos) (ZqT X.K ta):=by
 intro pins s σ H R I h;refine Call_ (Zfp I hg hm ZqQ (PyProof.Rows.callWith_type1 (thn (ha pos pins s σ H _ I h) fun us s1 ⟨vs,H1,I1,r1,q1⟩=>?_) hs hpl));obtain⟨a,b,xs,ys,ex,hqx,hqy,q⟩:=q1;subst ex;cases r1 with
 |cons r rr =>
  cases rr with
  |cons r' rr =>
   cases rr;cases r;cases r';obtain⟨its,rv,p1,_⟩:=I1.list hqx;obtain⟨its2,rv2,p2,_⟩:=I1.list hqy;have la:a < s1.heap.objs.size:=p1.lt;have lb:b < s1.heap.objs.size:=p2.lt;refine call_zip_2 p1.isList p2.isList fun h' hz hTI hTO h1 h2 hsz hk=>wpAny_pyIter_zip hz ?_;have I2:Inv X pins σ H1 { s1 with heap:=h' }:=I1.kept (t':=s1.toks) hk;refine⟨s1.heap.objs.size+4,[s1.heap.objs.size+4,s1.heap.objs.size+2,s1.heap.objs.size+3,s1.heap.objs.size,s1.heap.objs.size+1],_,_,H1,rfl,I2,ZqR (PySem.W.ktu_apart s1.heap.objs.size a b la lb),⟨hz,hTI,⟨_,_,hTO⟩,h1,h2⟩,fun c hcm=>?_,q⟩;have e':c=s1.heap.objs.size+4\/c=s1.heap.objs.size+2\/c=s1.heap.objs.size+3\/c=s1.heap.objs.size\/c=s1.heap.objs.size+1:=by simpa using hcm
   have hle:s1.heap.objs.size<=c:=by
    rcases e' with z|z|z|z|z
    ·rw[z];exact Nat.le_add_right _ _
    ·rw[z];exact Nat.le_add_right _ _
    ·rw[z];exact Nat.le_add_right _ _
    ·rw[z];exact Nat.le_refl _
    ·rw[z];exact Nat.le_add_right _ _
   exact I1.ZeC hle (I1.hok.fresh hle)
end L2
section
namespace ZqV
open PySem PyProof.Rows
end ZqV
end
section
namespace TL
open PySem PySem.Builtin PySem.Builtin.Str PySem.StrLaws
abbrev tl(x:Str):List Nat:=x.cps.toList
theorem ZkY{x y:Str}(h:tl x=tl y):x=y:=Str.ext' (Array.toList_inj.mp h)
theorem ZkZ(x y:Str):tl (x++y)=tl x++tl y:=by
 show(x++y).cps.toList=_;rw[Str.cps_append,Array.toList_append]
theorem Zk0(s:String):tl (Str.ofString s)=s.toList.map Char.toNat:=PyProof.Rows.signs_ofString s
def ZeO(S:List Nat):List (List Nat)->List Nat
 |[]=>[]
 |[p]=>p
 |p::q::r=>p++(S++ZeO S (q::r))
theorem Zk1(y:Str):∀parts:List Str,tl (Str.join y parts)=ZeO (tl y) (parts.map tl)
 |[]=>rfl
 |[_]=>rfl
 |x::z::r=>by
  show tl (x++y++Str.join y (z::r))=tl x++(tl y++ZeO (tl y) ((z::r).map tl))
  rw[ZkZ,ZkZ,Zk1 y (z::r),List.append_assoc]
theorem join_eq(y:Str)(parts:List Str):Txt.join y parts=Str.join y parts:=glued_eq_join y parts
end TL
end
namespace L2
open PySem PySem.Spec PyProof.Rows
theorem Zhr:∀{ys:List Str}{us:List Value},Zn (ys.map V.str) us->StrsAre us ys
 |[],_,.nil=>.nil
 |y::ys,_,.cons r t=>by
  obtain⟨k,rfl⟩:=r;exact .cons y k (Zhr t)
section
variable{X:Cx}{pins:List (Addr×Obj)}{σ:St}{H:Hp}{s:Shared}{Q:VK}
end
section
variable{X:Cx}
theorem ZqW:MtR X "str.join" (fun x xs H Q=>∃a p,∃ys:List Str,x=.str a/\xs=[.ref p]/\(SqL X.K H p (ys.map V.str)\/SqT X.K H p (ys.map V.str)) /\
  (ys.map (·.length)).sum+ys.length * a.length<=16777216/\Q (.str (Txt.join a ys)) H):=by
 intro pins s σ H x xs v us Q I rx rs h;obtain⟨a,p,ys,rfl,rfl,hp,hz,h⟩:=h;obtain⟨t,rfl⟩:=rx;cases rs with
 |cons r1 rs =>
  cases rs;cases r1;rcases hp with hp|hp
  ·obtain⟨its,r,⟨o,n,ho,hc,_,hd⟩,_⟩:=I.list hp;exact PyProof.Rows.join_list (items:=its.toArray) ⟨o,ho,hc,n,hd⟩ (by rw[List.toList_toArray];exact Zhr r) hz fun t' k=>⟨.str _,H,I.tok k,⟨t',rfl⟩,h⟩
  ·obtain⟨its,r,ht,_⟩:=I.tuple hp;exact PyProof.Rows.join_tuple (items:=its.toArray) ht (by rw[List.toList_toArray];exact Zhr r) hz fun t' k=>⟨.str _,H,I.tok k,⟨t',rfl⟩,h⟩
end
section
variable{X:Cx}{o e:Expr}{to te:TE}
def tM1(r:V->List V->Hp->VK->Prop)(to te:TE):TE:=fun σ H Q=>to σ H fun x H1=>(∃a,x=.str a)/\te σ H1 fun y H2=>r x [y] H2 Q
theorem ZqX{id:String}{name:Str}{apos pos:Pos}{r:V->List V->Hp->VK->Prop}(slot:Slot "str" name id)(ty:typeOf (.builtin id)=pure (.type "method_descriptor"))(rule:MtR X id r)(ho:PE X o to)(he:PE X e te)
  (hs:starEach [e] X.env=[(false,eval e X.env)]:=by rfl) (hbase:attributeBase o name X.env (eval o X.env)=eval o X.env:=by rfl) (hline:(apos.endLine==pos.line)=true:=by rfl) :
  PE X (.Call (.Attribute o name apos) [e] [] pos) (tM1 r to te):=by
 intro pins s σ H Q I h;refine PySem.Call_method1 hbase hs hline (thn (ho pins s σ H _ I h) fun v s1 ⟨x,H1,I1,r1,q1⟩=>?_);obtain⟨⟨a,rfl⟩,q1⟩:=q1;obtain⟨t,rfl⟩:=_root_.id r1;refine⟨"str",_,F.plainAttrs_str,slot,ty,typeIs_str _ _ _,(fun _ e=>nomatch e),Calls.callWith_builtin rfl (Calls.evalArgs_plain (Calls.spliced_cons ?_))⟩;exact thn (he pins s1 σ H1 _ I1 q1) fun u s2 ⟨y,H2,I2,r2,q2⟩=>Calls.spliced_nil (rule pins s2 σ H2 _ [y] _ [u] Q I2 r1 (.cons r2 .nil) q2)
theorem ZqY{apos pos:Pos}(ho:PE X o to)(he:PE X e te)(hs:starEach [e] X.env=[(false,eval e X.env)]:=by rfl)(hbase:attributeBase o "join" X.env (eval o X.env)=eval o X.env:=by rfl)(hline:(apos.endLine==pos.line)=true:=by rfl) :
  PE X (.Call (.Attribute o "join" apos) [e] [] pos) (tM1 (fun x xs H Q=>∃a p,∃ys:List Str,x=.str a/\xs=[.ref p]/\(SqL X.K H p (ys.map V.str)\/SqT X.K H p (ys.map V.str)) /\
   (ys.map (·.length)).sum+ys.length * a.length<=16777216/\Q (.str (Txt.join a ys)) H) to te) :=
 ZqX F.slot_str_join F.type_str_join ZqW ho he hs hbase hline
end
end L2
namespace L2
open PySem PySem.Spec PyProof.Rows
section
variable{X:Cx}
end
end L2
namespace Att
open PySem PySem.W PySem.Calls PyProof.Rows
theorem ZqZ{P:Params}{h:Heap}:∀(ns:List Int)(vs:List Value),WellAll P h vs (ns.map WData.int)->IntsAre vs ns:=by
 intro ns;induction ns with
 |nil =>
  intro vs w;rw[List.map_nil] at w;cases w;exact .nil
 |cons n ns ih =>
  intro vs w;rw[List.map_cons] at w;cases w with
  |cons a b =>
   cases a;exact .cons _ _ (ih _ b)
section
variable{prog:Program}{w:World}{A:Around}{E:Value->Shared->Prop}{s:Shared}{K:Frag}
end
end Att
namespace L2
open PySem PySem.Spec PyProof.Rows
theorem Zk2:∀{vs:List Value}{ns:List Int},IntsAre vs ns->Zn (ns.map V.int) vs
 |_,_,.nil=>.nil
 |_,_,.cons n t h=>.cons ⟨t,rfl⟩ (Zk2 h)
def Zhs(H:Hp):Prop:=∀b,H b=none\/∃o xs,H b=some (.frz o (.lst xs))
end L2
namespace L2
open PySem PySem.Spec PyProof.Rows
end L2
namespace L2
open PySem PySem.Spec PyProof.Rows
def inClass(s:Stmt)(j:Nat):Stmt:=match s with
 |.ClassDef _ _ _ body _ _ _ _ _ _ _=>body.getD j (.Pass ⟨0,0,0,0⟩)
 |_=>.Pass ⟨0,0,0,0⟩
def ZbS(s:Stmt):Arguments:=match s with
 |.FunctionDef _ a _ _ _ _ _ _ _ _=>a
 |_=>{ posonlyargs:=[],args:=[],vararg:=none,kwonlyargs:=[],kw_defaults:=[],kwarg:=none,defaults:=[] }
def ZaV(s:Stmt):List Stmt:=match s with
 |.FunctionDef _ _ b _ _ _ _ _ _ _=>b
 |_=>[]
def Zi(s:Stmt):Scope:=match s with
 |.FunctionDef _ _ _ _ _ _ sc _ _ _=>sc
 |_=>{ kind:=.function,names:=[],isGenerator:=false,isCoroutine:=false }
abbrev CX0:CXT:=fun _ _ _ _ _ _=>False
abbrev E0:XK:=fun _ _ _=>False
theorem Zs{X:Cx}:Passes CX0 X E0:=fun _ _ _ _ _ _ _ h=>h.elim
structure Fun(K:PySem.W.Frag)(x qual:Str)(st:Stmt)(f:Addr)(fd:FuncData):Prop where
 ex:∃(oc:Value)(od:Option Addr)(kV doc pm:Value)(an:Option Addr)(cdv ct:Value)(osl:Array (Option Value)),
  fd=PySem.W.fnOf x qual (ZbS st) (ZaV st) (Zi st) .none kV doc pm an cdv ct/\K.lookup f=some ⟨oc,od,.func fd,osl⟩/\PySem.W.codeIn K cdv qual=true
 kp:PySem.W.keepIn K (.ref f)=true
section
variable{P:Program}{w:World}{K:PySem.W.Frag}{mg:Str->Option Value}{base:Heap}
theorem Fun.ok{x qual:Str}{st:Stmt}{f:Addr}{fd:FuncData}{N ps:List Str}{k:Nat}{sp:Sp}(F:Fun K x qual st f fd)(S:Zo N ps (Zi st))(len:∀vs H Q E,sp vs H Q E->vs.length=ps.length)
  (hbody:∀(cdv:Value)(A:Around)(outer:List Env)(s:Shared)(H:Hp)(vs:List V)(Q:VK)(E:XK),ZZ k (A.deeper (envOfC qual (Zi st) s.heap.objs.size f cdv))->sp vs H Q E ->
   ∃t,PSs (Zbp CX0 P w K mg base N qual (Zi st) f cdv A outer s H E).nox (ZaV st) t/\t { nx:=fun _ H'=>Q .non H',rt:=Q } (start N vs) H):ZaH P w K mg base CX0 (k+1) f fd ps sp:=by
 obtain⟨oc,od,kV,doc,pm,an,cdv,ct,osl,rfl,lk,hcd⟩:=F.ex;refine Zky lk hcd S len fun A outer s H vs Q E hr hsp=>?_;obtain⟨t,h,q⟩:=hbody cdv A outer s H vs Q E hr hsp;exact⟨t,h.nox,q⟩
theorem Fun.binds{x qual:Str}{st:Stmt}{f:Addr}{fd:FuncData}{ps:List Str}(F:Fun K x qual st f fd)
  (h:∀(kV doc pm:Value)(an:Option Addr)(cdv ct:Value)(us:List Value),us.length=ps.length->bindArgs (PySem.W.fnOf x qual (ZbS st) (ZaV st) (Zi st) .none kV doc pm an cdv ct) ⟨us,[]⟩=pure (ps.zip us)):Binds K fd ps []:=by
 obtain⟨oc,od,kV,doc,pm,an,cdv,ct,osl,rfl,lk,hcd⟩:=F.ex;exact .all (h kV doc pm an cdv ct)
theorem Zht{x qual:Str}{st:Stmt}{f:Addr}{oc:Value}{od an:Option Addr}{osl:Array (Option Value)}{kV doc pm cdv ct:Value}(l:K.lookup f=some ⟨oc,od,.func (PySem.W.fnOf x qual (ZbS st) (ZaV st) (Zi st) .none kV doc pm an cdv ct),osl⟩)
  (c:PySem.W.codeIn K cdv qual=true) (k:PySem.W.keepIn K (.ref f)=true):Fun K x qual st f (PySem.W.fnOf x qual (ZbS st) (ZaV st) (Zi st) .none kV doc pm an cdv ct):=⟨⟨oc,od,kV,doc,pm,an,cdv,ct,osl,rfl,l,c⟩,k⟩
end
section
variable{X:Cx}
theorem pv(i:Nat){x:Str}{pos:Pos}(hN:X.N[i]?=some x:=by rfl)(hv:Vis X.env.scope x:=by first|exact Or.inl rfl|exact Or.inr (Or.inl rfl)|exact Or.inr (Or.inr rfl))(hd:(x==("__debug__":Str))=false:=by decide)
  (hcd:(x==("__classdict__":Str))=false:=by decide):PE X (.Name x pos) (ZH i):=ZoD hN hv hd hcd
theorem Zhu:ZbQ X (.builtin "len") (fun xs H Q=>∃a kvs,xs=[V.ref a]/\H a=some (.dK kvs)/\Q (.int kvs.length) H):=by
 intro pins s σ H xs us Q I r h;obtain⟨a,kvs,rfl,ha,q⟩:=h;obtain⟨u,rfl,ru⟩:=vals1 r;cases ru;exact Zqk I (.inl ha) fun t s' I'=>⟨.int kvs.length,H,I',⟨t,rfl⟩,q⟩
end
theorem ZW{A B:Prop}(h:B):if false=true then A else B:=by
 rw[if_neg Bool.false_ne_true];exact h
theorem Zar{A B:Prop}(h:A):if true=true then A else B:=by
 rw[if_pos rfl];exact h
theorem ZfI{c A B:Prop}[Decidable c](h1:c->A)(h2:¬c->B):if c then A else B:=by
 by_cases h:c
 ·rw[if_pos h];exact h1 h
 ·rw[if_neg h];exact h2 h
def Zc(H H':Hp):Prop:=∀b o,H b=some o->H' b=some o
theorem Zc.refl(H:Hp):Zc H H:=fun _ _ h=>h
theorem Zc.trans{H H1 H2:Hp}(a:Zc H H1)(b:Zc H1 H2):Zc H H2:=fun c o h=>b c o (a c o h)
theorem Zc.free{H H':Hp}(e:Zc H H'){l:Addr}(h:H' l=Option.none):H l=Option.none:=by
 cases q:H l with
 |none=>rfl
 |some o =>
  rw[e l o q] at h;cases h
theorem Zc.seq{K:PySem.W.Frag}{H H':Hp}{a:Addr}{xs:List V}(e:Zc H H')(h:SqL K H a xs):SqL K H' a xs:=by
 rcases h with(h|⟨o,h⟩)|h
 ·exact .inl (.inl (e _ _ h))
 ·exact .inl (.inr ⟨o,e _ _ h⟩)
 ·exact .inr h
section
variable{κ:Type}[DecidableEq κ]
end
theorem at_of{xs:List V}{z:Int}{j:Nat}{v:V}(e:z=(j:Int))(h:xs[j]?=some v):atI xs z=some v:=by
 rw[e];exact ZF h
end L2
namespace Tl
open Kgf1
abbrev ZaW(x:Nat):Bool:=decide (32<=x)&&decide (x<=126)&&x != 34
abbrev ZaB(x:Nat):Bool:=isSmall x||isDigit x
theorem Zk3:∀(m n:Nat)(b:Bytes),b.length < m->b.length < n->lex m b=lex n b
 |0,_,_,h,_=>absurd h (Nat.not_lt_zero _)
 |_,0,_,_,h=>absurd h (Nat.not_lt_zero _)
 |_+1,_+1,[],_,_=>rfl
 |m+1,n+1,c::r,h1,h2=>by
  simp only[List.length_cons] at h1 h2;have go:∀q:Bytes,q.length<=r.length->lex m q=lex n q:=fun q hq=>Zk3 m n q (by omega) (by omega);simp only[lex];rw[go r (Nat.le_refl _)];by_cases hc:isSmall c=true
  ·have e1:((c::r).drop ((c::r).takeWhile ZaB).length).length<=r.length:=by
    rw[List.length_drop,List.takeWhile_cons];simp only[ZaB,hc,Bool.true_or,if_true,List.length_cons];omega
   rw[go _ e1,go (r.drop ((r.takeWhile ZaW).length+1)) (by rw[List.length_drop];omega)]
  ·simp only[hc];rw[go (r.drop ((r.takeWhile ZaW).length+1)) (by rw[List.length_drop];omega)];rfl
def toks(b:Bytes):Option (List Tok):=lex (b.length+1) b
theorem Zk4{m:Nat}{b:Bytes}(h:b.length < m):lex m b=toks b:=Zk3 _ _ _ h (Nat.lt_succ_self _)
theorem Zq0:toks []=some []:=rfl
theorem Zq1{c:Nat}{r:Bytes}(h:c=10\/c=32):toks (c::r)=toks r:=by
 unfold toks;rw[List.length_cons,lex,if_pos h]
theorem Zq2{r:Bytes}:toks (61::r)=(toks r).map fun l=>Tok.eq::l:=by
 unfold toks;rw[List.length_cons,lex,if_neg (by decide),if_pos rfl]
theorem Zq3{r:Bytes}:toks (59::r)=(toks r).map fun l=>Tok.semi::l:=by
 unfold toks;rw[List.length_cons,lex,if_neg (by decide),if_neg (by decide),if_pos rfl]
theorem Zk5{r:Bytes}:toks (34::r)=if 255 < (r.takeWhile ZaW).length\/(r.drop (r.takeWhile ZaW).length).head?≠some 34 then none else(toks (r.drop ((r.takeWhile ZaW).length+1))).map fun l=>Tok.str (r.takeWhile ZaW)::l:=by
 have e:toks (34::r)=lex (r.length+1+1) (34::r):=rfl;rw[e,lex,if_neg (by decide),if_neg (by decide),if_neg (by decide),if_pos rfl];show(if 255 < (r.takeWhile ZaW).length\/(r.drop (r.takeWhile ZaW).length).head?≠some 34 then none else(lex (r.length+1) (r.drop ((r.takeWhile ZaW).length+1))).map fun l=>Tok.str (r.takeWhile ZaW)::l)=_;rw[Zk4 (by rw[List.length_drop];omega)]
theorem Zq4{c:Nat}(h:isSmall c=true):¬(c=10\/c=32)/\c≠61/\c≠59/\c≠34:=by
 simp only[isSmall,Bool.and_eq_true,decide_eq_true_eq] at h;omega
theorem Zk6{c:Nat}{r:Bytes}(h:isSmall c=true):toks (c::r)=if 12 < ((c::r).takeWhile ZaB).length then none else(toks ((c::r).drop ((c::r).takeWhile ZaB).length)).map fun l=>Tok.name ((c::r).takeWhile ZaB)::l:=by
 obtain⟨h1,h2,h3,h4⟩:=Zq4 h;have e:toks (c::r)=lex (r.length+1+1) (c::r):=rfl;rw[e,lex,if_neg h1,if_neg h2,if_neg h3,if_neg h4,if_pos h];have e1:((c::r).drop ((c::r).takeWhile ZaB).length).length < r.length+1:=by
  rw[List.length_drop,List.takeWhile_cons];simp only[ZaB,h,Bool.true_or,if_true,List.length_cons];omega
 show(if 12 < ((c::r).takeWhile ZaB).length then none else(lex (r.length+1) ((c::r).drop ((c::r).takeWhile ZaB).length)).map fun l=>Tok.name ((c::r).takeWhile ZaB)::l)=_;rw[Zk4 e1]
theorem Zq5{c:Nat}{r:Bytes}(h:isSmall c=false)(h1:¬(c=10\/c=32))(h2:c≠61)(h3:c≠59)(h4:c≠34):toks (c::r)=none:=by
 unfold toks;rw[List.length_cons,lex,if_neg h1,if_neg h2,if_neg h3,if_neg h4,h];rfl
def Zbb(vs:List Var):List Tok->Option (Part×List Tok)
 |.name n::.name h::.name v::r=>(part vs n h v).map fun p=>(p,r)
 |_=>none
theorem ZfJ{vs:List Var}{ts r:List Tok}{p:Part}(h:Zbb vs ts=some (p,r)):r.length+3=ts.length:=by
 unfold Zbb at h;split at h
 ·obtain⟨p',_,e⟩:=Option.map_eq_some_iff.mp h;cases e;rfl
 ·cases h
def andThen(rec:List Tok->Option (Cond×List Tok))(c:Cond):List Tok->Option (Cond×List Tok)
 |.name a::q=>if a=ascii "and" then(rec q).map fun(x:Cond×List Tok)=>(c++x.1,x.2) else some (c,.name a::q)
 |r=>some (c,r)
theorem Zq6(vs:List Var)(m:Nat)(n h v:Bytes)(r:List Tok):parts vs (m+1) (.name n::.name h::.name v::r)=(part vs n h v).bind fun p=>andThen (parts vs m) [p] r:=by
 conv=>lhs;unfold parts
 cases part vs n h v with
 |none=>rfl
 |some p =>
  show _=andThen (parts vs m) [p] r;match r with
  |[]=>rfl
  |.name _::_=>rfl
  |.eq::_=>rfl
  |.semi::_=>rfl
  |.str _::_=>rfl
theorem ZfK(vs:List Var)(m:Nat)(ts:List Tok):parts vs (m+1) ts=(Zbb vs ts).bind fun x=>andThen (parts vs m) [x.1] x.2:=by
 match ts with
 |.name n::.name h::.name v::r =>
  rw[Zq6];show _=((part vs n h v).map fun p=>(p,r)).bind fun x=>andThen (parts vs m) [x.1] x.2;cases part vs n h v<;>rfl
 |[]=>rfl
 |.eq::_=>rfl
 |.semi::_=>rfl
 |.str _::_=>rfl
 |[.name _]=>rfl
 |.name _::.eq::_=>rfl
 |.name _::.semi::_=>rfl
 |.name _::.str _::_=>rfl
 |[.name _,.name _]=>rfl
 |.name _::.name _::.eq::_=>rfl
 |.name _::.name _::.semi::_=>rfl
 |.name _::.name _::.str _::_=>rfl
theorem Zk7{f g:List Tok->Option (Cond×List Tok)}{c:Cond}{r:List Tok}(h:∀q,q.length < r.length->f q=g q):andThen f c r=andThen g c r:=by
 unfold andThen;split
 ·rename_i a q;rw[h q (by simp)]
 ·rfl
theorem Zk8(vs:List Var):∀(m n:Nat)(ts:List Tok),ts.length < m->ts.length < n->parts vs m ts=parts vs n ts
 |0,_,_,h,_=>absurd h (Nat.not_lt_zero _)
 |_,0,_,_,h=>absurd h (Nat.not_lt_zero _)
 |m+1,n+1,ts,h1,h2=>by
  rw[ZfK,ZfK];cases e:Zbb vs ts with
  |none=>rfl
  |some x =>
   have hl:=ZfJ (p:=x.1) (r:=x.2) e;exact Zk7 fun q hq=>Zk8 vs m n q (by omega) (by omega)
def Z7(vs:List Var)(ts:List Tok):Option (Cond×List Tok):=parts vs (ts.length+1) ts
theorem Zd3(vs:List Var)(ts:List Tok):Z7 vs ts=(Zbb vs ts).bind fun x=>andThen (Z7 vs) [x.1] x.2:=by
 unfold Z7;rw[ZfK];cases e:Zbb vs ts with
 |none=>rfl
 |some x =>
  have hl:=ZfJ (p:=x.1) (r:=x.2) e;exact Zk7 fun q hq=>Zk8 vs _ _ q (by omega) (by omega)
theorem Zq7(vs:List Var)(c:Cond)(q:List Tok):andThen (Z7 vs) c (.name (ascii "and")::q)=(Zbb vs q).bind fun x=>andThen (Z7 vs) (c++[x.1]) x.2:=by
 have e1:andThen (Z7 vs) c (.name (ascii "and")::q)=(Z7 vs q).map fun(x:Cond×List Tok)=>(c++x.1,x.2):=by
  simp only[andThen,if_true]
 rw[e1,Zd3];cases Zbb vs q with
 |none=>rfl
 |some x =>
  show(andThen (Z7 vs) [x.1] x.2).map _=andThen (Z7 vs) (c++[x.1]) x.2;unfold andThen;split
  ·rename_i a q' _;split
   ·cases Z7 vs q' with
    |none=>rfl
    |some y=>show some _=some _;simp
   ·rfl
  ·rfl
theorem Zd4(vs:List Var)(ts:List Tok):cond vs ts=(Z7 vs ts).bind fun x=>if x.1.length<=16 then some x else none:=rfl
def ZS(ts:List Tok):Prop:=Tok.semi∉ts
theorem Zk9:∀(pre l rest:List Tok),ZS pre->sentences (pre++.semi::rest) l=(sentences rest []).map fun s=>(l++pre)::s
 |[],l,rest,_=>by
  show(sentences rest []).map _=_;rw[List.append_nil]
 |t::pre,l,rest,h=>by
  have h1:t≠.semi:=fun e=>h (by rw[e];exact List.mem_cons_self);have h2:ZS pre:=fun m=>h (List.mem_cons_of_mem _ m);have e:sentences (t::pre++.semi::rest) l=sentences (pre++.semi::rest) (l++[t]):=by
   cases t<;>first|rfl|exact absurd rfl h1
  rw[e,Zk9 pre _ rest h2,List.append_assoc];rfl
theorem Zla:∀(ts l:List Tok),ZS ts->(ts≠[]\/l≠[])->sentences ts l=none
 |[],[],_,h=>by simp at h
 |[],_::_,_,_=>rfl
 |t::ts,l,h,_=>by
  have h1:t≠.semi:=fun e=>h (by rw[e];exact List.mem_cons_self);have h2:ZS ts:=fun m=>h (List.mem_cons_of_mem _ m);have e:sentences (t::ts) l=sentences ts (l++[t]):=by
   cases t<;>first|rfl|exact absurd rfl h1
  rw[e];exact Zla ts _ h2 (.inr (by simp))
def ZaE(t:Tale)(ts:List Tok):Option Tale:=(sentences ts []).bind fun s=>s.foldlM sentence t
theorem Zlb{t:Tale}{ts:List Tok}(h:ZS ts)(hn:ts≠[]):ZaE t ts=none:=by
 unfold ZaE;rw[Zla ts [] h (.inl hn)];rfl
theorem Zlc{t:Tale}{pre rest:List Tok}(h:ZS pre):ZaE t (pre++.semi::rest)=(sentence t pre).bind fun t'=>ZaE t' rest:=by
 unfold ZaE;rw[Zk9 pre [] rest h];cases e:sentences rest [] with
 |none=>cases sentence t pre<;>rfl
 |some s =>
  show List.foldlM sentence t (([]++pre)::s)=_;rw[List.nil_append,List.foldlM_cons];rfl
theorem Zhv:∀ts:List Tok,ZS ts\/∃pre rest,ts=pre++.semi::rest/\ZS pre
 |[]=>.inl (by simp[ZS])
 |t::ts=>by
  by_cases h:t=.semi
  ·exact .inr ⟨[],ts,by rw[h];rfl,by simp[ZS]⟩
  ·rcases Zhv ts with q|⟨pre,rest,rfl,q⟩
   ·refine .inl fun m=>?_;rcases List.mem_cons.mp m with z|z
    ·exact h z.symm
    ·exact q z
   ·refine .inr ⟨t::pre,rest,rfl,fun m=>?_⟩;rcases List.mem_cons.mp m with z|z
    ·exact h z.symm
    ·exact q z
end Tl
namespace Tl
open Kgf1
theorem ZX{t:Tok}{ts:List Tok}(h:ZS (t::ts)):t≠.semi/\ZS ts:=⟨fun e=>h (by rw[e];exact List.mem_cons_self),fun m=>h (List.mem_cons_of_mem _ m)⟩
theorem Zcb{a b:List Tok}(h:ZS b)(s:a <:+ b):ZS a:=fun m=>h (s.subset m)
theorem Zq8(vs:List Var){pre:List Tok}(rest:List Tok)(h:ZS pre):Zbb vs (pre++.semi::rest)=(Zbb vs pre).map fun x=>(x.1,x.2++.semi::rest):=by
 match pre with
 |.name n::.name h::.name v::r =>
  show((part vs n h v).map fun p=>(p,r++.semi::rest))=((part vs n h v).map fun p=>(p,r)).map _;cases part vs n h v<;>rfl
 |[]=>rfl
 |.eq::_=>rfl
 |.semi::_=>exact absurd rfl (ZX h).1
 |.str _::_=>rfl
 |[.name _]=>rfl
 |.name _::.eq::_=>rfl
 |.name _::.semi::_=>exact absurd rfl (ZX (ZX h).2).1
 |.name _::.str _::_=>rfl
 |[.name _,.name _]=>rfl
 |.name _::.name _::.eq::_=>rfl
 |.name _::.name _::.semi::_=>exact absurd rfl (ZX (ZX (ZX h).2).2).1
 |.name _::.name _::.str _::_=>rfl
theorem Zld{vs:List Var}{ts r:List Tok}{p:Part}(h:Zbb vs ts=some (p,r)):r <:+ ts:=by
 unfold Zbb at h;split at h
 ·obtain⟨p',_,e⟩:=Option.map_eq_some_iff.mp h;cases e;exact⟨[_,_,_],rfl⟩
 ·cases h
theorem Zq9(vs:List Var)(rest:List Tok):∀(n:Nat)(pre:List Tok),pre.length<=n->ZS pre->Z7 vs (pre++.semi::rest)=(Z7 vs pre).map fun x=>(x.1,x.2++.semi::rest):=by
 intro n;induction n with
 |zero =>
  intro pre hl h;obtain rfl:=List.length_eq_zero_iff.mp (Nat.le_zero.mp hl);rfl
 |succ n ih =>
  intro pre hl h;rw[Zd3,Zd3,Zq8 vs rest h];cases e:Zbb vs pre with
  |none=>rfl
  |some x =>
   have hlen:=ZfJ (p:=x.1) (r:=x.2) e;have hs:ZS x.2:=Zcb h (Zld (p:=x.1) e);show andThen (Z7 vs) [x.1] (x.2++.semi::rest)=(andThen (Z7 vs) [x.1] x.2).map _;match q:x.2 with
   |[]=>rfl
   |.eq::_=>rfl
   |.semi::_=>rw[q] at hs;exact absurd rfl (ZX hs).1
   |.str _::_=>rfl
   |.name a::r =>
    rw[q] at hs hlen;show(if a=ascii "and" then(Z7 vs (r++.semi::rest)).map _ else _)=((if a=ascii "and" then(Z7 vs r).map _ else _):Option (Cond×List Tok)).map _;split
    ·rw[ih r (by simp only[List.length_cons] at hlen;omega) (ZX hs).2];cases Z7 vs r<;>rfl
    ·rfl
theorem Zra(vs:List Var):∀(n:Nat)(ts:List Tok)(c:Cond)(r:List Tok),ts.length<=n->Z7 vs ts=some (c,r)->r <:+ ts:=by
 intro n;induction n with
 |zero =>
  intro ts c r hl h;obtain rfl:=List.length_eq_zero_iff.mp (Nat.le_zero.mp hl);cases h
 |succ n ih =>
  intro ts c r hl h;rw[Zd3] at h;obtain⟨x,e,h⟩:=Option.bind_eq_some_iff.mp h;have hlen:=ZfJ (p:=x.1) (r:=x.2) e;have hs:=Zld (p:=x.1) (r:=x.2) e;refine List.IsSuffix.trans ?_ hs;unfold andThen at h;split at h
  ·rename_i a q e2;split at h
   ·obtain⟨y,e3,e4⟩:=Option.map_eq_some_iff.mp h;cases e4;rw[e2] at hlen ⊢;exact(ih q y.1 y.2 (by simp only[List.length_cons] at hlen;omega) e3).trans ⟨[.name a],rfl⟩
   ·cases h;rw[e2];exact List.suffix_refl _
  ·cases h;exact List.suffix_refl _
theorem Zle(vs:List Var){pre:List Tok}(rest:List Tok)(h:ZS pre):cond vs (pre++.semi::rest)=(cond vs pre).map fun x=>(x.1,x.2++.semi::rest):=by
 rw[Zd4,Zd4,Zq9 vs rest _ pre (Nat.le_refl _) h];cases Z7 vs pre with
 |none=>rfl
 |some x =>
  show(if x.1.length<=16 then some (x.1,x.2++.semi::rest) else none)=(if x.1.length<=16 then some x else none).map _;split<;>rfl
theorem Zhw{vs:List Var}{ts r:List Tok}{c:Cond}(h:cond vs ts=some (c,r)):r <:+ ts:=by
 rw[Zd4] at h;obtain⟨x,e,h⟩:=Option.bind_eq_some_iff.mp h;split at h
 ·cases h;exact Zra vs _ ts _ _ (Nat.le_refl _) e
 ·cases h
theorem Zhx(vs:List Var)(w:String){pre:List Tok}(rest:List Tok)(h:ZS pre):maybe vs w (pre++.semi::rest)=(maybe vs w pre).map fun x=>(x.1,x.2++.semi::rest):=by
 match pre with
 |[] =>
  show(if Tok.semi=kw w then cond vs rest else some ([],.semi::rest))=some ([],.semi::rest);rw[if_neg (by intro e;cases e)]
 |k::r =>
  show(if k=kw w then cond vs (r++.semi::rest) else some ([],k::r++.semi::rest))=(if k=kw w then cond vs r else some ([],k::r)).map _;split
  ·rw[Zle vs rest (ZX h).2]
  ·rfl
theorem ZcP{vs:List Var}{w:String}{ts r:List Tok}{c:Cond}(h:maybe vs w ts=some (c,r)):r <:+ ts:=by
 unfold maybe at h;split at h
 ·split at h
  ·exact(Zhw h).trans (List.suffix_cons _ _)
  ·cases h;exact List.suffix_refl _
 ·cases h;exact List.suffix_refl _
def Zat{α:Type}(a:α):List Tok->Option (α×List Tok)
 |.semi::r=>some (a,r)
 |_=>none
def ZcQ(t:Tale)(w:Bytes)(c d:Cond):List Tok->Option (Tale×List Tok)
 |.name y::.str x::r=>if y=ascii "say" then Zat { t with whens:=t.whens++[⟨w,c,d,x⟩] } r else none
 |_=>none
def ZcR(t:Tale):List Tok->Option (Tale×List Tok)
 |.str w::q=>if okWords w=true then(maybe t.vars "if" q).bind fun c=>(maybe t.vars "do" c.2).bind fun d=>if okChange d.1=true then ZcQ t w c.1 d.1 d.2 else none else none
 |_=>none
def ZcS(t:Tale):List Tok->Option (Tale×List Tok)
 |.str x::q=>(maybe t.vars "if" q).bind fun c=>Zat { t with shows:=t.shows++[⟨x,c.1⟩] } c.2
 |_=>none
def ZbE(t:Tale)(f:Cond->Tale):List Tok->Option (Tale×List Tok)
 |i::q=>if i=kw "if" then(cond t.vars q).bind fun c=>Zat (f c.1) c.2 else none
 |_=>none
def Zcc(t:Tale)(c:Cond):Tale:={ t with wons:=t.wons++[c] }
def Zcd(t:Tale)(c:Cond):Tale:={ t with losts:=t.losts++[c] }
def Zcs(t:Tale):List Tok->Option (Tale×List Tok)
 |.name k::r=>if k=ascii "when" then ZcR t r else if k=ascii "show" then ZcS t r else if k=ascii "won" then ZbE t (Zcc t) r else if k=ascii "lost" then ZbE t (Zcd t) r else none
 |_=>none
theorem Zhy{α:Type}(a:α){pre:List Tok}(rest:List Tok)(h:ZS pre):Zat a (pre++.semi::rest)=if pre=[] then some (a,rest) else none:=by
 match pre with
 |[]=>rfl
 |.semi::_=>exact absurd rfl (ZX h).1
 |.name _::_=>rfl
 |.eq::_=>rfl
 |.str _::_=>rfl
theorem ZfL{α:Type}(a:α){ts:List Tok}(h:ZS ts):Zat a ts=none:=by
 match ts with
 |[]=>rfl
 |.semi::_=>exact absurd rfl (ZX h).1
 |.name _::_=>rfl
 |.eq::_=>rfl
 |.str _::_=>rfl
def Zds(t:Tale)(w:Bytes)(c d:Cond):List Tok->Option Tale
 |[.name y,.str x]=>if y=ascii "say" then some { t with whens:=t.whens++[⟨w,c,d,x⟩] } else none
 |_=>none
theorem Zrb(t:Tale)(w:Bytes)(c d:Cond){pre:List Tok}(rest:List Tok)(h:ZS pre):ZcQ t w c d (pre++.semi::rest)=(Zds t w c d pre).map fun t'=>(t',rest):=by
 match pre with
 |.name y::.str x::r =>
  have hr:=(ZX (ZX h).2).2;show(if y=ascii "say" then Zat _ (r++.semi::rest) else none)=_;rw[Zhy _ rest hr];cases r with
  |nil =>
   show(if y=ascii "say" then _ else none)=(if y=ascii "say" then _ else none:Option Tale).map _;split<;>rfl
  |cons a r =>
   have e:Zds t w c d (.name y::.str x::a::r)=none:=rfl;rw[e];split<;>simp
 |[]=>rfl
 |.eq::_=>rfl
 |.str _::_=>rfl
 |.semi::_=>exact absurd rfl (ZX h).1
 |[.name _]=>rfl
 |.name _::.eq::_=>rfl
 |.name _::.name _::_=>rfl
 |.name _::.semi::_=>exact absurd rfl (ZX (ZX h).2).1
theorem Zrc(t:Tale)(w:Bytes)(c d:Cond){ts:List Tok}(h:ZS ts):ZcQ t w c d ts=none:=by
 unfold ZcQ;split
 ·split
  ·exact ZfL _ (ZX (ZX h).2).2
  ·rfl
 ·rfl
def Zhz(t:Tale):List Tok->Option Tale
 |.str w::q=>if okWords w=true then(maybe t.vars "if" q).bind fun c=>(maybe t.vars "do" c.2).bind fun d=>if okChange d.1=true then Zds t w c.1 d.1 d.2 else none else none
 |_=>none
theorem Zrd(t:Tale){pre:List Tok}(rest:List Tok)(h:ZS pre):ZcR t (pre++.semi::rest)=(Zhz t pre).map fun t'=>(t',rest):=by
 match pre with
 |.str w::q =>
  have hq:=(ZX h).2;show(if okWords w=true then(maybe t.vars "if" (q++.semi::rest)).bind _ else none)=(if okWords w=true then(maybe t.vars "if" q).bind _ else none:Option Tale).map _;split
  ·rw[Zhx t.vars "if" rest hq];cases e:maybe t.vars "if" q with
   |none=>rfl
   |some c =>
    have hc:ZS c.2:=Zcb hq (ZcP (c:=c.1) (r:=c.2) e);show(maybe t.vars "do" (c.2++.semi::rest)).bind _=((maybe t.vars "do" c.2).bind _).map _;rw[Zhx t.vars "do" rest hc];cases e2:maybe t.vars "do" c.2 with
    |none=>rfl
    |some d =>
     have hd:ZS d.2:=Zcb hc (ZcP (c:=d.1) (r:=d.2) e2);show(if okChange d.1=true then ZcQ t w c.1 d.1 (d.2++.semi::rest) else none)=(if okChange d.1=true then Zds t w c.1 d.1 d.2 else none).map _;split
     ·exact Zrb t w c.1 d.1 rest hd
     ·rfl
  ·rfl
 |[]=>rfl
 |.eq::_=>rfl
 |.name _::_=>rfl
 |.semi::_=>exact absurd rfl (ZX h).1
theorem Zre(t:Tale){ts:List Tok}(h:ZS ts):ZcR t ts=none:=by
 unfold ZcR;split
 ·rename_i w q;have hq:=(ZX h).2;split
  ·cases e:maybe t.vars "if" q with
   |none=>rfl
   |some c =>
    have hc:ZS c.2:=Zcb hq (ZcP (c:=c.1) (r:=c.2) e);show(maybe t.vars "do" c.2).bind _=none;cases e2:maybe t.vars "do" c.2 with
    |none=>rfl
    |some d =>
     have hd:ZS d.2:=Zcb hc (ZcP (c:=d.1) (r:=d.2) e2);show(if okChange d.1=true then ZcQ t w c.1 d.1 d.2 else none)=none;split
     ·exact Zrc t w c.1 d.1 hd
     ·rfl
  ·rfl
 ·rfl
def ZhA(t:Tale):List Tok->Option Tale
 |.str x::q=>(maybe t.vars "if" q).bind fun c=>if c.2=[] then some { t with shows:=t.shows++[⟨x,c.1⟩] } else none
 |_=>none
theorem Zrf(t:Tale){pre:List Tok}(rest:List Tok)(h:ZS pre):ZcS t (pre++.semi::rest)=(ZhA t pre).map fun t'=>(t',rest):=by
 match pre with
 |.str x::q =>
  have hq:=(ZX h).2;show(maybe t.vars "if" (q++.semi::rest)).bind _=((maybe t.vars "if" q).bind _).map _;rw[Zhx t.vars "if" rest hq];cases e:maybe t.vars "if" q with
  |none=>rfl
  |some c =>
   have hc:ZS c.2:=Zcb hq (ZcP (c:=c.1) (r:=c.2) e);show Zat _ (c.2++.semi::rest)=(if c.2=[] then _ else none:Option Tale).map _;rw[Zhy _ rest hc];split<;>rfl
 |[]=>rfl
 |.eq::_=>rfl
 |.name _::_=>rfl
 |.semi::_=>exact absurd rfl (ZX h).1
theorem Zrg(t:Tale){ts:List Tok}(h:ZS ts):ZcS t ts=none:=by
 unfold ZcS;split
 ·rename_i w q;have hq:=(ZX h).2;cases e:maybe t.vars "if" q with
  |none=>rfl
  |some c=>exact ZfL _ (Zcb hq (ZcP (c:=c.1) (r:=c.2) e))
 ·rfl
def ZeP(t:Tale)(f:Cond->Tale):List Tok->Option Tale
 |i::q=>if i=kw "if" then(cond t.vars q).bind fun c=>if c.2=[] then some (f c.1) else none else none
 |_=>none
theorem Zlf(t:Tale)(f:Cond->Tale){pre:List Tok}(rest:List Tok)(h:ZS pre):ZbE t f (pre++.semi::rest)=(ZeP t f pre).map fun t'=>(t',rest):=by
 match pre with
 |[] =>
  show(if Tok.semi=kw "if" then(cond t.vars rest).bind fun c=>Zat (f c.1) c.2 else none)=none;rw[if_neg (by intro e;cases e)]
 |i::q =>
  have hq:=(ZX h).2;show(if i=kw "if" then(cond t.vars (q++.semi::rest)).bind _ else none)=(if i=kw "if" then(cond t.vars q).bind _ else none:Option Tale).map _;split
  ·rw[Zle t.vars rest hq];cases e:cond t.vars q with
   |none=>rfl
   |some c =>
    have hc:ZS c.2:=Zcb hq (Zhw (c:=c.1) (r:=c.2) e);show Zat _ (c.2++.semi::rest)=(if c.2=[] then _ else none:Option Tale).map _;rw[Zhy _ rest hc];split<;>rfl
  ·rfl
theorem Zlg(t:Tale)(f:Cond->Tale){ts:List Tok}(h:ZS ts):ZbE t f ts=none:=by
 unfold ZbE;split
 ·rename_i i q;have hq:=(ZX h).2;split
  ·cases e:cond t.vars q with
   |none=>rfl
   |some c=>exact ZfL _ (Zcb hq (Zhw (c:=c.1) (r:=c.2) e))
  ·rfl
 ·rfl
def ZhB(t:Tale)(w:Bytes)(c d:Cond):List Tok->Option Tale
 |[.name y,.str x]=>if y=ascii "say"/\okWords w=true/\okChange d=true then some { t with whens:=t.whens++[⟨w,c,d,x⟩] } else none
 |_=>none
theorem Zrh(t:Tale)(w:Bytes)(c d:Cond)(r:List Tok):ZhB t w c d r=if okWords w=true then if okChange d=true then Zds t w c d r else none else none:=by
 unfold ZhB Zds;split
 ·rename_i y x;by_cases h1:okWords w=true<;>by_cases h2:okChange d=true<;>by_cases h3:y=ascii "say"<;>simp[h1,h2,h3]
 ·split
  ·split<;>rfl
  ·rfl
theorem Zlh(t:Tale)(r:List Tok):sentence t (.name (ascii "when")::r)=Zhz t r:=by
 have n1:¬ascii "when"=ascii "var":=by decide
 have e:sentence t (.name (ascii "when")::r)=(match r with
   |.str w::q=>(maybe t.vars "if" q).bind fun c=>(maybe t.vars "do" c.2).bind fun d=>ZhB t w c.1 d.1 d.2
   |_=>none):=by
  conv=>lhs;unfold sentence
  simp only[n1,if_false,if_true];rfl
 rw[e];match r with
 |.str w::q =>
  show(maybe t.vars "if" q).bind _=(if okWords w=true then(maybe t.vars "if" q).bind _ else none);cases e1:maybe t.vars "if" q with
  |none=>split<;>rfl
  |some c =>
   show(maybe t.vars "do" c.2).bind _=(if okWords w=true then(maybe t.vars "do" c.2).bind _ else none);cases e2:maybe t.vars "do" c.2 with
   |none=>split<;>rfl
   |some d=>exact Zrh t w c.1 d.1 d.2
 |[]=>rfl
 |.eq::_=>rfl
 |.name _::_=>rfl
 |.semi::_=>rfl
theorem Zli(t:Tale)(r:List Tok):sentence t (.name (ascii "show")::r)=ZhA t r:=by
 have n1:¬ascii "show"=ascii "var":=by decide
 have n2:¬ascii "show"=ascii "when":=by decide
 unfold sentence;simp only[n1,n2,if_false,if_true];match r with
 |.str w::q=>rfl
 |[]=>rfl
 |.eq::_=>rfl
 |.name _::_=>rfl
 |.semi::_=>rfl
theorem Zlj(t:Tale)(r:List Tok):sentence t (.name (ascii "won")::r)=ZeP t (Zcc t) r:=by
 have n1:¬ascii "won"=ascii "var":=by decide
 have n2:¬ascii "won"=ascii "when":=by decide
 have n3:¬ascii "won"=ascii "show":=by decide
 unfold sentence;simp only[n1,n2,n3,if_false,if_true];cases r<;>rfl
theorem Zlk(t:Tale)(r:List Tok):sentence t (.name (ascii "lost")::r)=ZeP t (Zcd t) r:=by
 have n1:¬ascii "lost"=ascii "var":=by decide
 have n2:¬ascii "lost"=ascii "when":=by decide
 have n3:¬ascii "lost"=ascii "show":=by decide
 have n4:¬ascii "lost"=ascii "won":=by decide
 unfold sentence;simp only[n1,n2,n3,n4,if_false,if_true];cases r<;>rfl
def ZaJ(t:Tale):Bool:=t.whens.isEmpty&&t.shows.isEmpty&&t.wons.isEmpty&&t.losts.isEmpty
def ZbF(t:Tale)(n:Bytes)(l:List Bytes):Bool:=!(reserved.contains n)&&!(t.vars.any fun x=>x.name==n)&&decide (2<=l.length)&&decide (l.length<=16)&&decide l.Nodup
def Zdt(t:Tale):List Tok->Option Tale
 |.name n::.eq::v=>(names v).bind fun l=>if ZaJ t&&ZbF t n l then some { t with vars:=t.vars++[⟨n,l⟩] } else none
 |_=>none
theorem ZhC(t:Tale)(r:List Tok):sentence t (.name (ascii "var")::r)=Zdt t r:=by
 have e:sentence t (.name (ascii "var")::r)=(match r with
   |.name n::.eq::v=>(names v).bind fun l=>if t.whens.isEmpty&&t.shows.isEmpty&&t.wons.isEmpty&&t.losts.isEmpty&&!(reserved.contains n)&&!(t.vars.any fun x=>x.name==n)&&decide (2<=l.length)&&decide (l.length<=16)&&decide l.Nodup then some { t with vars:=t.vars++[⟨n,l⟩] } else none
   |_=>none):=by
  conv=>lhs;unfold sentence
  simp only[if_true];rfl
 rw[e];unfold Zdt;split
 ·rename_i n v;cases names v with
  |none=>rfl
  |some l =>
   simp only[Option.bind_some,ZaJ,ZbF,Bool.and_assoc]
 ·rfl
theorem Zri{t:Tale}{r:List Tok}(h:ZaJ t=false):Zdt t r=none:=by
 unfold Zdt;split
 ·rename_i n v;cases names v with
  |none=>rfl
  |some l=>simp[h]
 ·rfl
def namesIn:List Tok->List Bytes
 |.name b::r=>b::namesIn r
 |_=>[]
theorem Zll(r:List Tok):(namesIn r).length<=r.length:=by
 induction r with
 |nil=>exact Nat.le_refl _
 |cons t r ih =>
  cases t with
  |name b=>exact Nat.succ_le_succ ih
  |_=>exact Nat.zero_le _
def ZbG(t:Tale):List Tok->Option (Tale×List Tok)
 |.name n::.eq::r=>if ZbF t n (namesIn r)=true then Zat { t with vars:=t.vars++[⟨n,namesIn r⟩] } (r.drop (namesIn r).length) else none
 |_=>none
theorem Zlm:∀{v:List Tok}{l:List Bytes}(rest:List Tok),names v=some l->namesIn (v++.semi::rest)=l/\(v++.semi::rest).drop l.length=.semi::rest
 |[],l,rest,h=>by
  cases h;exact⟨rfl,rfl⟩
 |.name b::r,l,rest,h=>by
  obtain⟨l',e,rfl⟩:=Option.map_eq_some_iff.mp (show(names r).map (fun l=>b::l)=some l from h);obtain⟨h1,h2⟩:=Zlm rest e;refine⟨?_,h2⟩;show b::namesIn (r++.semi::rest)=_;rw[h1]
 |.eq::_,_,_,h=>by cases h
 |.semi::_,_,_,h=>by cases h
 |.str _::_,_,_,h=>by cases h
theorem Zln:∀{v:List Tok}(rest:List Tok){α:Type}(a:α),ZS v->names v=none->Zat a ((v++.semi::rest).drop (namesIn (v++.semi::rest)).length)=none
 |[],_,_,_,_,h=>by cases h
 |.name b::r,rest,_,a,hs,h=>by
  have e:names r=none:=by
   cases q:names r with
   |none=>rfl
   |some l =>
    have h':(names r).map (fun l=>b::l)=none:=h;rw[q] at h';cases h'
  have z:=Zln (v:=r) rest a (ZX hs).2 e;exact z
 |.eq::_,_,_,_,_,_=>rfl
 |.semi::_,_,_,_,hs,_=>absurd rfl (ZX hs).1
 |.str _::_,_,_,_,_,_=>rfl
theorem Zrj(t:Tale){pre:List Tok}(rest:List Tok)(hr:ZaJ t=true)(h:ZS pre):ZbG t (pre++.semi::rest)=(Zdt t pre).map fun t'=>(t',rest):=by
 match pre with
 |.name n::.eq::v =>
  have hv:=(ZX (ZX h).2).2;show(if ZbF t n (namesIn (v++.semi::rest))=true then Zat ({ t with vars:=t.vars++[⟨n,namesIn (v++.semi::rest)⟩] }:Tale) ((v++.semi::rest).drop (namesIn (v++.semi::rest)).length) else none)=((names v).bind fun l=>if ZaJ t&&ZbF t n l then _ else none).map _;cases e:names v with
  |none =>
   rw[Zln rest _ hv e];split<;>rfl
  |some l =>
   obtain⟨h1,h2⟩:=Zlm rest e;rw[h1,h2,hr];show _=(if ZbF t n l=true then _ else none:Option Tale).map _;split<;>rfl
 |[]=>rfl
 |.eq::_=>rfl
 |.str _::_=>rfl
 |.semi::_=>exact absurd rfl (ZX h).1
 |[.name _]=>rfl
 |.name _::.name _::_=>rfl
 |.name _::.str _::_=>rfl
 |.name _::.semi::_=>exact absurd rfl (ZX (ZX h).2).1
theorem Zrk(t:Tale){ts:List Tok}(h:ZS ts):ZbG t ts=none:=by
 unfold ZbG;split
 ·split
  ·exact ZfL _ (Zcb (ZX (ZX h).2).2 (List.drop_suffix _ _))
  ·rfl
 ·rfl
theorem Zrl{t:Tale}{ts:List Tok}(hr:ZaJ t=true):ZaE t (.name (ascii "var")::ts)=(ZbG t ts).bind fun x=>ZaE x.1 x.2:=by
 rcases Zhv ts with h|⟨pre,rest,rfl,h⟩
 ·have h':ZS (.name (ascii "var")::ts):=fun m=>by
   rcases List.mem_cons.mp m with z|z
   ·cases z
   ·exact h z
  rw[Zlb h' (by simp),Zrk t h];rfl
 ·have h':ZS (.name (ascii "var")::pre):=fun m=>by
   rcases List.mem_cons.mp m with z|z
   ·cases z
   ·exact h z
  have e:=Zlc (t:=t) (rest:=rest) h';rw[List.cons_append] at e;rw[e,ZhC,Zrj t rest hr h];cases Zdt t pre<;>rfl
theorem Zrm(t:Tale){pre:List Tok}(rest:List Tok)(h:ZS pre)(hv:ZaJ t=false\/pre.head?≠some (kw "var")):Zcs t (pre++.semi::rest)=(sentence t pre).map fun t'=>(t',rest):=by
 match pre with
 |.name k::r =>
  have hr:=(ZX h).2;show(if k=ascii "when" then ZcR t (r++.semi::rest) else if k=ascii "show" then ZcS t (r++.semi::rest) else if k=ascii "won" then ZbE t (Zcc t) (r++.semi::rest) else if k=ascii "lost" then ZbE t (Zcd t) (r++.semi::rest) else none)=_;by_cases k1:k=ascii "when"
  ·subst k1;rw[if_pos rfl,Zlh,Zrd t rest hr]
  ·rw[if_neg k1];by_cases k2:k=ascii "show"
   ·subst k2;rw[if_pos rfl,Zli,Zrf t rest hr]
   ·rw[if_neg k2];by_cases k3:k=ascii "won"
    ·subst k3;rw[if_pos rfl,Zlj,Zlf t _ rest hr]
    ·rw[if_neg k3];by_cases k4:k=ascii "lost"
     ·subst k4;rw[if_pos rfl,Zlk,Zlf t _ rest hr]
     ·rw[if_neg k4];by_cases k0:k=ascii "var"
      ·subst k0;have hn:ZaJ t=false:=hv.resolve_right fun z=>z rfl;rw[ZhC,Zri hn];rfl
      ·have e:sentence t (.name k::r)=none:=by
        unfold sentence;simp only[k0,k1,k2,k3,k4,if_false]
       rw[e];rfl
 |[]=>rfl
 |.eq::_=>rfl
 |.str _::_=>rfl
 |.semi::_=>exact absurd rfl (ZX h).1
theorem Zrn(t:Tale){ts:List Tok}(h:ZS ts):Zcs t ts=none:=by
 unfold Zcs;split
 ·have hr:=(ZX h).2;rw[Zre t hr,Zrg t hr,Zlg t _ hr,Zlg t _ hr];split<;>first|rfl|(split<;>first|rfl|(split<;>first|rfl|(split<;>rfl)))
 ·rfl
theorem Zro{t:Tale}{ts:List Tok}(hn:ts≠[])(hv:ZaJ t=false\/ts.head?≠some (kw "var")):ZaE t ts=(Zcs t ts).bind fun x=>ZaE x.1 x.2:=by
 rcases Zhv ts with h|⟨pre,rest,rfl,h⟩
 ·rw[Zlb h hn,Zrn t h];rfl
 ·rw[Zlc h,Zrm t rest h (hv.imp id fun z q=>z ?_)]
  ·cases sentence t pre<;>rfl
  ·cases pre with
   |nil=>cases q
   |cons a r=>exact q
theorem Zrp(b:Bytes):Kgf1.read b=(toks b).bind fun l=>(ZaE {} l).bind fun t=>if okTale t then some t else none:=by
 unfold Kgf1.read ZaE toks;cases lex (b.length+1) b with
 |none=>rfl
 |some l =>
  show(sentences l [] >>= fun s=>_)=((sentences l []).bind _).bind _;cases sentences l []<;>rfl
end Tl
namespace Tl
open Kgf1
abbrev bl(c:Nat):Bool:=c==32
theorem ZeQ{c:Nat}(h:c≠32)(r:Bytes):oneBlank (c::r)=c::oneBlank r:=by
 cases r with
 |nil=>rfl
 |cons b r =>
  show(if c=32/\b=32 then oneBlank (b::r) else c::oneBlank (b::r))=_;rw[if_neg fun z=>h z.1]
theorem Zlo:∀r:Bytes,oneBlank (32::r)=32::oneBlank (r.dropWhile bl)
 |[]=>rfl
 |b::r=>by
  show(if(32:Nat)=32/\b=32 then oneBlank (b::r) else 32::oneBlank (b::r))=_;by_cases h:b=32
  ·subst h;rw[if_pos ⟨rfl,rfl⟩,Zlo r];rfl
  ·rw[if_neg fun z=>h z.2,List.dropWhile_cons,if_neg (by simpa[bl] using h)]
def one:Bool->Bytes->Bytes
 |_,[]=>[]
 |b,c::r=>if c=32 then(if b=true then one true r else 32::one true r) else c::one false r
theorem Zlp:∀m:Bytes,one false m=oneBlank m/\one true m=oneBlank (m.dropWhile bl)
 |[]=>⟨rfl,rfl⟩
 |c::r=>by
  obtain⟨h1,h2⟩:=Zlp r;by_cases h:c=32
  ·subst h;refine⟨?_,?_⟩
   ·show 32::one true r=_;rw[h2,Zlo]
   ·show one true r=_;rw[h2];rfl
  ·have e:∀b,one b (c::r)=c::oneBlank r:=fun b=>by
    show(if c=32 then _ else c::one false r)=_;rw[if_neg h,h1]
   refine⟨by rw[e,ZeQ h],?_⟩;rw[e,List.dropWhile_cons,if_neg (by simpa[bl] using h),ZeQ h]
theorem ZhD:∀m:Bytes,(oneBlank m).getLast?=m.getLast?
 |[]=>rfl
 |[_]=>rfl
 |a::b::r=>by
  have ih:=ZhD (b::r);show(if a=32/\b=32 then oneBlank (b::r) else a::oneBlank (b::r)).getLast?=_;split
  ·rw[ih];simp
  ·have e:(a::oneBlank (b::r)).getLast?=(oneBlank (b::r)).getLast?:=by
    cases q:oneBlank (b::r) with
    |nil =>
     rw[q] at ih;have z:(none:Option Nat)=(b::r).getLast?:=ih;rw[List.getLast?_cons] at z;cases z
    |cons x y=>simp
   rw[e,ih];simp
theorem ZhE:∀(m:Bytes)(c:Nat),oneBlank (m++[c])=if m.getLast?=some 32/\c=32 then oneBlank m else oneBlank m++[c]
 |[],c=>by simp[oneBlank]
 |[a],c=>by
  show(if a=32/\c=32 then[c] else a::[c])=_;simp only[List.getLast?_singleton,Option.some.injEq];split
  ·rename_i h;rw[h.1,h.2];rfl
  ·rfl
 |a::b::r,c=>by
  have ih:=ZhE (b::r) c;have e:(a::b::r).getLast?=(b::r).getLast?:=by simp
  show(if a=32/\b=32 then oneBlank ((b::r)++[c]) else a::oneBlank ((b::r)++[c]))=_;rw[ih,e];show _=if(b::r).getLast?=some 32/\c=32 then(if a=32/\b=32 then oneBlank (b::r) else a::oneBlank (b::r)) else(if a=32/\b=32 then oneBlank (b::r) else a::oneBlank (b::r))++[c]
  split<;>split<;>rfl
def rstrip(m:Bytes):Bytes:=(m.reverse.dropWhile bl).reverse
theorem ZfM(m:Bytes)(c:Nat):rstrip (m++[c])=if c=32 then rstrip m else m++[c]:=by
 unfold rstrip;rw[List.reverse_append];show(List.dropWhile bl (c::m.reverse)).reverse=_;rw[List.dropWhile_cons];by_cases h:c=32
 ·rw[if_pos (by simpa[bl] using h),if_pos h]
 ·rw[if_neg (by simpa[bl] using h),if_neg h];simp
def fin(l:Bytes):Bytes:=if l.getLast?=some 32 then l.dropLast else l
theorem ZfN{P:Bytes->Prop}(h0:P [])(h1:∀m c,P m->P (m++[c])):∀m,P m:=by
 have key:∀m:Bytes,P m.reverse:=by
  intro m;induction m with
  |nil=>exact h0
  |cons a r ih=>rw[List.reverse_cons];exact h1 _ _ ih
 intro m;have:=key m.reverse;rwa [List.reverse_reverse] at this
theorem Zrq(m:Bytes):fin (oneBlank m)=oneBlank (rstrip m):=by
 refine ZfN (P:=fun m=>fin (oneBlank m)=oneBlank (rstrip m)) rfl (fun m c ih=>?_) m;rw[ZfM,ZhE];by_cases hc:c=32
 ·subst hc;rw[if_pos rfl,←ih];by_cases hl:m.getLast?=some 32
  ·rw[if_pos ⟨hl,rfl⟩]
  ·rw[if_neg fun z=>hl z.1];have e:fin (oneBlank m)=oneBlank m:=by
    unfold fin;rw[ZhD,if_neg hl]
   rw[e];unfold fin;simp
 ·rw[if_neg hc,if_neg fun z=>hc z.2,ZhE,if_neg fun z=>hc z.2];unfold fin;simp[hc]
theorem Zrr(l:Bytes):plain l=fin (one true (l.map small)):=by
 unfold plain;rw[(Zlp _).2,Zrq];rfl
def ZaK(acc:Bytes)(c:Nat):Bytes:=if 65<=c/\c<=90 then acc++[c+32] else if c≠32 then acc++[c] else if acc≠[]/\acc.getLast?≠some 32 then acc++[32] else acc
def Zce(acc:Bytes):Bool:=acc.isEmpty||acc.getLast?==some 32
theorem ZhF(acc:Bytes)(c:Nat):Zce (acc++[c])=(c==32):=by
 unfold Zce;simp
theorem Zlq:∀(l acc:Bytes),l.foldl ZaK acc=acc++one (Zce acc) (l.map small)
 |[],acc=>by simp[one]
 |c::r,acc=>by
  rw[List.foldl_cons,Zlq r];show ZaK acc c++one (Zce (ZaK acc c)) (r.map small)=acc++one (Zce acc) (small c::r.map small);unfold ZaK;by_cases h1:65<=c/\c<=90
  ·have e:small c=c+32:=if_pos h1;rw[if_pos h1,e,ZhF];show _=acc++(if c+32=32 then _ else(c+32)::one false (r.map small))
   rw[if_neg (by omega),show((c+32==32)=false) from by simp;omega];simp
  ·have e:small c=c:=if_neg h1;rw[if_neg h1,e];by_cases h2:c=32
   ·subst h2;rw[if_neg (by simp)];show _=acc++(if Zce acc=true then one true (r.map small) else 32::one true (r.map small))
    by_cases h3:acc≠[]/\acc.getLast?≠some 32
    ·have hb:Zce acc=false:=by
      unfold Zce;simp[h3.1,h3.2]
     rw[if_pos h3,ZhF,hb];simp
    ·have hb:Zce acc=true:=by
      unfold Zce;by_cases h4:acc=[]
      ·simp[h4]
      ·have:acc.getLast?=some 32:=by
        by_cases h5:acc.getLast?=some 32
        ·exact h5
        ·exact absurd ⟨h4,h5⟩ h3
       simp[this]
     rw[if_neg h3,hb];simp
   ·rw[if_pos h2,ZhF];show _=acc++(if c=32 then _ else c::one false (r.map small))
    rw[if_neg h2,show((c==32)=false) from by simpa using h2];simp
theorem Zrs(l:Bytes):plain l=fin (l.foldl ZaK []):=by
 rw[Zrr,Zlq];rfl
def Zcf(b:Bytes):Bool:=(b.zip (b.drop 1)).all fun p=>!(p.1==32&&p.2==32)
theorem ZhG(a b:Nat)(r:Bytes):Zcf (a::b::r)=(!(a==32&&b==32)&&Zcf (b::r)):=by
 unfold Zcf;simp
theorem Zlr:∀m:Bytes,Zcf (oneBlank m)=true
 |[]=>rfl
 |[_]=>rfl
 |a::b::r=>by
  have ih:=Zlr (b::r);by_cases ha:a=32
  ·by_cases hb:b=32
   ·have e:oneBlank (a::b::r)=oneBlank (b::r):=if_pos ⟨ha,hb⟩;rw[e];exact ih
   ·have e:oneBlank (a::b::r)=a::oneBlank (b::r):=if_neg fun z=>hb z.2;rw[e,ZeQ hb,ZhG];rw[ZeQ hb] at ih;simp[hb,ih]
  ·rw[ZeQ ha];cases q:oneBlank (b::r) with
   |nil=>rfl
   |cons x y =>
    rw[q] at ih;rw[ZhG,ih];simp[ha]
theorem Zls:∀m:Bytes,Zcf m=true->oneBlank m=m
 |[],_=>rfl
 |[_],_=>rfl
 |a::b::r,h=>by
  rw[ZhG,Bool.and_eq_true] at h;have e:oneBlank (a::b::r)=a::oneBlank (b::r):=if_neg fun z=>by simp[z.1,z.2] at h
  rw[e,Zls _ h.2]
theorem Zrt(m:Bytes):(oneBlank m).head?=m.head?:=by
 induction m with
 |nil=>rfl
 |cons a r ih =>
  cases r with
  |nil=>rfl
  |cons b r =>
   by_cases h:a=32/\b=32
   ·have e:oneBlank (a::b::r)=oneBlank (b::r):=if_pos h;rw[e,ih,h.1,h.2];rfl
   ·have e:oneBlank (a::b::r)=a::oneBlank (b::r):=if_neg h;rw[e];rfl
theorem Zru(m:Bytes):(rstrip m).getLast?≠some 32:=by
 refine ZfN (P:=fun m=>(rstrip m).getLast?≠some 32) (by decide) (fun m c ih=>?_) m;rw[ZfM];split
 ·exact ih
 ·rename_i h;simpa using h
theorem Zrv(m:Bytes)(h:m.head?≠some 32):(rstrip m).head?≠some 32:=by
 revert h;refine ZfN (P:=fun m=>m.head?≠some 32->(rstrip m).head?≠some 32) (fun _=>by decide) (fun m c ih h=>?_) m;rw[ZfM];split
 ·refine ih fun z=>h ?_;cases m with
  |nil=>cases z
  |cons a r=>exact z
 ·exact h
theorem Zrw(m:Bytes):(m.dropWhile bl).head?≠some 32:=by
 induction m with
 |nil=>decide
 |cons a r ih =>
  rw[List.dropWhile_cons];split
  ·exact ih
  ·rename_i h;intro z;have:a=32:=Option.some.inj z;exact h (by simp[bl,this])
theorem Zrx(l:Bytes):(plain l).head?≠some 32/\(plain l).getLast?≠some 32/\Zcf (plain l)=true:=by
 have e:plain l=oneBlank (rstrip ((l.map small).dropWhile bl)):=rfl;rw[e,Zrt,ZhD];exact⟨Zrv _ (Zrw _),Zru _,Zlr _⟩
theorem Zry{w:Bytes}(h0:w.map small=w)(h1:w.head?≠some 32)(h2:w.getLast?≠some 32)(h3:Zcf w=true):plain w=w:=by
 have e:plain w=oneBlank (rstrip ((w.map small).dropWhile bl)):=rfl;have e1:w.dropWhile bl=w:=by
  cases w with
  |nil=>rfl
  |cons a r =>
   rw[List.dropWhile_cons,if_neg];intro z;exact h1 (by simpa[bl] using z)
 have e2:rstrip w=w:=by
  revert h2;refine ZfN (P:=fun w=>w.getLast?≠some 32->rstrip w=w) (fun _=>rfl) (fun m c _ h=>?_) w;rw[ZfM,if_neg];simpa using h
 rw[e,h0,e1,e2,Zls w h3]
def Za5(c:Nat):Bool:=isSmall c||isDigit c||c==32
theorem Zrz{w:Bytes}(h:w.all Za5=true):w.map small=w:=by
 induction w with
 |nil=>rfl
 |cons c r ih =>
  rw[List.all_cons,Bool.and_eq_true] at h;rw[List.map_cons,ih h.2];have e:small c=c:=if_neg fun z=>by
   have:=h.1;simp only[Za5,isSmall,isDigit,Bool.or_eq_true,Bool.and_eq_true,decide_eq_true_eq,beq_iff_eq] at this;omega
  rw[e]
theorem ZrA(w:Bytes):okWords w=(decide (1<=w.length)&&decide (w.length<=40)&&w.all Za5&&decide (plain w=w)):=by
 have e:okWords w=(decide (1<=w.length)&&decide (w.length<=40)&&w.all Za5&&(w.head? != some 32&&w.getLast? != some 32&&Zcf w)):=by
  unfold okWords Zcf Za5;simp only[Bool.and_assoc]
 rw[e];cases h:w.all Za5 with
 |false=>simp
 |true =>
  congr 1;by_cases hp:plain w=w
  ·have g:=Zrx w;rw[hp] at g;simp[hp,g.1,g.2.1,g.2.2]
  ·rw[decide_eq_false hp];cases q:(w.head? != some 32&&w.getLast? != some 32&&Zcf w) with
   |false=>rfl
   |true =>
    simp only[Bool.and_eq_true,bne_iff_ne,ne_eq] at q;exact absurd (Zry (Zrz h) q.1.1 q.1.2 q.2) hp
end Tl
namespace Tl
open Kgf1 Kgf2
theorem ZrB{l:List St}{s x:St}:x∈add l s↔x∈l\/x=s:=by
 unfold add;split
 ·rename_i h;have h':s∈l:=by simpa using h
  exact⟨.inl,fun z=>z.elim id fun e=>e▸h'⟩
 ·simp
theorem ZrC(l:List St)(s:St):l <+: add l s:=by
 unfold add;split
 ·exact List.prefix_refl _
 ·exact List.prefix_append _ _
theorem ZrD{l:List St}{s:St}(h:l.Nodup):(add l s).Nodup:=by
 unfold add;split
 ·exact h
 ·rename_i hn;refine List.nodup_append.mpr ⟨h,by simp,fun a ha b hb=>?_⟩;rw[List.mem_singleton.mp hb];rintro rfl;exact hn (by simpa using ha)
theorem Zd5:∀(ss l:List St),l <+: ss.foldl add l
 |[],l=>List.prefix_refl _
 |s::ss,l=>(ZrC l s).trans (Zd5 ss (add l s))
theorem Zdu:∀{ss l:List St}{x:St},x∈ss.foldl add l↔x∈l\/x∈ss
 |[],l,x=>by simp
 |s::ss,l,x=>by
  rw[List.foldl_cons,Zdu,ZrB,List.mem_cons];constructor
  ·rintro((h|h)|h)
   ·exact .inl h
   ·exact .inr (.inl h)
   ·exact .inr (.inr h)
  ·rintro(h|h|h)
   ·exact .inl (.inl h)
   ·exact .inl (.inr h)
   ·exact .inr h
theorem Zlt:∀{ss l:List St},l.Nodup->(ss.foldl add l).Nodup
 |[],_,h=>h
 |_::ss,_,h=>Zlt (ss:=ss) (ZrD h)
theorem Zlu(t:Tale):∀(m k:Nat)(l:List St),l <+: wander t m k l
 |0,_,l=>List.prefix_refl _
 |m+1,k,l=>by
  unfold wander;split
  ·exact List.prefix_refl _
  ·exact(Zd5 _ l).trans (Zlu t m (k+1) _)
theorem Zlv(t:Tale)(m k:Nat)(l:List St)(h:l.length<=k):wander t m k l=l:=by
 cases m with
 |zero=>rfl
 |succ m =>
  unfold wander;rw[List.getElem?_eq_none_iff.mpr h]
theorem ZhH(t:Tale)(m k:Nat){l:List St}{s:St}(h:l[k]?=some s):wander t (m+1) k l=wander t m (k+1) ((after t s).foldl add l):=by
 conv=>lhs;unfold wander
 rw[h]
structure Walk(t:Tale)(k:Nat)(l:List St):Prop where
 nd:l.Nodup
 ne:first t∈l
 hd:l.head?=some (first t)
 le:k<=l.length
 cl:∀i s x,i < k->l[i]?=some s->x∈after t s->x∈l
 eq:k<=Kgf2.MOST->come t=wander t (Kgf2.MOST - k) k l
theorem Zlw(t:Tale):Walk t 0 [first t]:=⟨by simp,by simp,rfl,Nat.zero_le _,fun i s x h=>absurd h (Nat.not_lt_zero _),fun _=>rfl⟩
theorem Walk.turn{t:Tale}{k:Nat}{l:List St}{s:St}(w:Walk t k l)(h:l[k]?=some s)(hk:k < Kgf2.MOST):Walk t (k+1) ((after t s).foldl add l):=by
 have hp:=Zd5 (after t s) l;have hkl:k < l.length:=(List.getElem?_eq_some_iff.mp h).1;refine⟨Zlt w.nd,Zdu.mpr (.inl w.ne),?_,Nat.lt_of_lt_of_le hkl hp.length_le,fun i z x hi e hx=>?_,fun hk'=>?_⟩
 ·obtain⟨r,e⟩:=hp;rw[←e];have hd:=w.hd;cases l with
  |nil=>cases hd
  |cons a l=>exact hd
 ·have hil:i < l.length:=by omega
  have e':l[i]?=some z:=by
   obtain⟨r,q⟩:=hp;rw[←q,List.getElem?_append_left hil] at e;exact e
  by_cases hik:i=k
  ·subst hik;rw[h] at e';cases e';exact Zdu.mpr (.inr hx)
  ·exact Zdu.mpr (.inl (w.cl i z x (by omega) e' hx))
 ·rw[w.eq (Nat.le_of_lt hk)];have e:Kgf2.MOST - k=(Kgf2.MOST - (k+1))+1:=by omega
  rw[e,ZhH t _ k h]
theorem Walk.many{t:Tale}{k:Nat}{l:List St}(w:Walk t k l)(hk:k<=Kgf2.MOST)(h:Kgf2.MOST < l.length):Kgf2.MOST < (come t).length:=by
 rw[w.eq hk];exact Nat.lt_of_lt_of_le h (Zlu t _ _ _).length_le
theorem Walk.done{t:Tale}{k:Nat}{l:List St}(w:Walk t k l)(h:l.length<=k)(hl:l.length<=Kgf2.MOST):come t=l:=by
 have e:k=l.length:=Nat.le_antisymm w.le h;rw[w.eq (by omega)];exact Zlv t _ k l h
def Za6(t:Tale)(l:List St):Prop:=∀s x,s∈l->x∈after t s->x∈l
theorem Walk.closed{t:Tale}{k:Nat}{l:List St}(w:Walk t k l)(h:l.length<=k):Za6 t l:=fun s x hs hx=>by
 obtain⟨i,hi,e⟩:=List.getElem_of_mem hs;exact w.cl i s x (by omega) (by rw[List.getElem?_eq_getElem hi,e]) hx
theorem Zdv(t:Tale)(m:Nat)(s:St):wonIn t (m+1) s=(status t s==1||(after t s).any (wonIn t m)):=rfl
theorem ZhI(t:Tale):∀(m:Nat)(s:St),wonIn t m s=true->wonIn t (m+1) s=true
 |0,s,h=>by
  have h':(status t s==1)=true:=h;rw[Zdv,h',Bool.true_or]
 |m+1,s,h=>by
  rw[Zdv,Bool.or_eq_true] at h ⊢;refine h.imp id fun z=>?_;obtain⟨x,hx,e⟩:=List.any_eq_true.mp z;exact List.any_eq_true.mpr ⟨x,hx,ZhI t m x e⟩
theorem ZhJ(t:Tale){m n:Nat}(h:m<=n)(s:St)(e:wonIn t m s=true):wonIn t n s=true:=by
 induction h with
 |refl=>exact e
 |step _ ih=>exact ZhI t _ s ih
def dist(t:Tale):Nat->St->Option Nat
 |0,s=>if status t s=1 then some 0 else none
 |m+1,s=>match dist t m s with
  |some n=>some n
  |none=>if(after t s).any (fun y=>(dist t m y).isSome) then some (m+1) else none
theorem ZfO(t:Tale):∀(m:Nat)(s:St),(dist t m s).isSome=wonIn t m s
 |0,s=>by
  show(if status t s=1 then some 0 else none).isSome=(status t s==1)
  by_cases h:status t s=1<;>simp[h]
 |m+1,s=>by
  have ih:=ZfO t m;show(match dist t m s with|some n=>some n|none=>if(after t s).any (fun y=>(dist t m y).isSome) then some (m+1) else none).isSome=_;cases q:dist t m s with
  |some n =>
   have h1:wonIn t m s=true:=by rw[←ih,q];rfl
   rw[ZhI t m s h1];rfl
  |none =>
   have h1:wonIn t m s=false:=by rw[←ih,q];rfl
   have h0:(status t s==1)=false:=by
    cases z:(status t s==1) with
    |false=>rfl
    |true =>
     have:wonIn t m s=true:=ZhJ t (Nat.zero_le m) s z;rw[h1] at this;cases this
   rw[Zdv,h0,Bool.false_or];have e:(after t s).any (fun y=>(dist t m y).isSome)=(after t s).any (wonIn t m):=by
    congr 1;funext y;exact ih y
   simp only[e];cases(after t s).any (wonIn t m)<;>rfl
theorem Zlx(t:Tale){m n k:Nat}{s:St}(h:dist t m s=some n)(hk:m<=k):dist t k s=some n:=by
 induction hk with
 |refl=>exact h
 |step _ ih =>
  show(match dist t _ s with|some n=>some n|none=>_)=_;rw[ih]
theorem Zly(t:Tale):∀(m:Nat)(s:St)(n:Nat),dist t m s=some n->n<=m/\wonIn t n s=true/\∀j,j < n->wonIn t j s=false
 |0,s,n,h=>by
  have h':(if status t s=1 then some 0 else none)=some n:=h;split at h'
  ·rename_i z;cases h';exact⟨Nat.le_refl _,by simpa[wonIn] using z,fun j hj=>absurd hj (Nat.not_lt_zero _)⟩
  ·cases h'
 |m+1,s,n,h=>by
  have h':(match dist t m s with|some n=>some n|none=>if(after t s).any (fun y=>(dist t m y).isSome) then some (m+1) else none)=some n:=h;cases q:dist t m s with
  |some k =>
   rw[q] at h';cases h';obtain⟨h1,h2⟩:=Zly t m s _ q;exact⟨Nat.le_succ_of_le h1,h2⟩
  |none =>
   rw[q] at h';have e:n=m+1:=by
    simp only at h';split at h'
    ·cases h';rfl
    ·cases h'
   subst e;refine⟨Nat.le_refl _,by rw[←ZfO,h];rfl,fun j hj=>?_⟩;cases z:wonIn t j s with
   |false=>rfl
   |true =>
    have:=ZhJ t (Nat.le_of_lt_succ hj) s z;rw[←ZfO,q] at this;cases this
theorem Zd6{l:List St}{y:St}(h:y∈l):l[l.idxOf y]?=some y:=by
 have hl:l.idxOf y < l.length:=List.idxOf_lt_length_iff.mpr h;rw[List.getElem?_eq_getElem hl];exact congrArg some (List.getElem_idxOf hl)
theorem ZrE{t:Tale}{l:List St}(cl:Za6 t l)(m:Nat):more t l (l.map (dist t m)) m=l.map (dist t (m+1)):=by
 unfold more;rw[List.zip_map_right,List.map_map];have e:l.zip l=l.map fun s=>(s,s):=by
  clear cl;induction l with
  |nil=>rfl
  |cons a l ih=>rw[List.zip_cons_cons,ih];rfl
 rw[e,List.map_map];refine List.map_congr_left fun s hs=>?_;have e2:(after t s).any (fun y=>match (l.map (dist t m))[l.idxOf y]? with|some (some _)=>true|_=>false)=(after t s).any fun y=>(dist t m y).isSome:=by
  rw[Bool.eq_iff_iff,List.any_eq_true,List.any_eq_true];constructor
  ·rintro⟨y,hy,q⟩;refine⟨y,hy,?_⟩;rw[List.getElem?_map,Zd6 (cl s y hs hy)] at q;simp only[Option.map_some] at q;cases z:dist t m y with
   |none=>rw[z] at q;cases q
   |some n=>rfl
  ·rintro⟨y,hy,q⟩;refine⟨y,hy,?_⟩;rw[List.getElem?_map,Zd6 (cl s y hs hy)];simp only[Option.map_some];cases z:dist t m y with
   |none=>rw[z] at q;cases q
   |some n=>rfl
 show(match dist t m s with|some n=>some n|none=>if(after t s).any (fun y=>match (l.map (dist t m))[l.idxOf y]? with|some (some _)=>true|_=>false) then some (m+1) else none)=dist t (m+1) s;rw[e2];rfl
theorem Zlz{t:Tale}{l:List St}{m:Nat}(cl:Za6 t l)(h:l.map (dist t (m+1))=l.map (dist t m)):∀k,m<=k->l.map (dist t k)=l.map (dist t m):=by
 intro k hk;induction hk with
 |refl=>rfl
 |@step k hk ih =>
  rw[←ih];refine List.map_congr_left fun s hs=>?_;show(match dist t k s with|some n=>some n|none=>if(after t s).any (fun y=>(dist t k y).isSome) then some (k+1) else none)=dist t k s;cases q:dist t k s with
  |some n=>rfl
  |none =>
   have same:∀y∈l,dist t k y=dist t m y:=fun y hy=>List.map_inj_left.mp ih y hy;have e:(after t s).any (fun y=>(dist t k y).isSome)=false:=by
    cases z:(after t s).any (fun y=>(dist t k y).isSome) with
    |false=>rfl
    |true =>
     exfalso;obtain⟨y,hy,w⟩:=List.any_eq_true.mp z;rw[same y (cl s y hs hy)] at w;have h1:dist t (m+1) s=some (m+1):=by
      have hm:dist t m s=none:=by rw[←same s hs];exact q
      show(match dist t m s with|some n=>some n|none=>if(after t s).any (fun y=>(dist t m y).isSome) then some (m+1) else none)=_;rw[hm];have w':(after t s).any (fun y=>(dist t m y).isSome)=true:=List.any_eq_true.mpr ⟨y,hy,w⟩;simp only[w',if_true]
     have h2:=List.map_inj_left.mp h s hs;rw[h1,←same s hs,q] at h2;cases h2
   simp only[e];rfl
def known(f:List (Option Nat)):Nat:=f.countP (·.isSome)
theorem ZrF{t:Tale}{l:List St}{m:Nat}(h:l.map (dist t (m+1))≠l.map (dist t m)):known (l.map (dist t m)) < known (l.map (dist t (m+1))):=by
 unfold known;rw[List.countP_map,List.countP_map];induction l with
 |nil=>exact absurd rfl h
 |cons s l ih =>
  rw[List.countP_cons,List.countP_cons];have mono:∀l:List St,l.countP ((fun x:Option Nat=>x.isSome)∘dist t m)<=l.countP ((fun x:Option Nat=>x.isSome)∘dist t (m+1)):=fun l=>by
   refine List.countP_mono_left fun x _ q=>?_;have q':(dist t m x).isSome=true:=q;obtain⟨n,e⟩:=Option.isSome_iff_exists.mp q';show(dist t (m+1) x).isSome=true;rw[Zlx t e (Nat.le_succ m)];rfl
  by_cases hs:dist t (m+1) s=dist t m s
  ·have h':l.map (dist t (m+1))≠l.map (dist t m):=fun e=>h (by rw[List.map_cons,List.map_cons,hs,e]);have:=ih h';simp only[Function.comp_apply,hs];omega
  ·have hn:dist t m s=none:=by
    cases q:dist t m s with
    |none=>rfl
    |some n=>exact absurd (by rw[Zlx t q (Nat.le_succ m),q]) hs
   have hy:(dist t (m+1) s).isSome=true:=by
    cases q:dist t (m+1) s with
    |none=>exact absurd (by rw[q,hn]) hs
    |some n=>rfl
   have:=mono l;simp only[Function.comp_apply,hn,hy];simp;omega
theorem ZlA{t:Tale}{l:List St}(cl:Za6 t l):∀(n m:Nat),m<=known (l.map (dist t m))+0\/True->(∃k,m<=k/\fars t l n m (l.map (dist t m))=l.map (dist t k)/\(k < m+n->l.map (dist t (k+1))=l.map (dist t k))/\k<=m+n)
 |0,m,_=>⟨m,Nat.le_refl _,rfl,fun h=>absurd h (by omega),Nat.le_refl _⟩
 |n+1,m,_=>by
  have e:fars t l (n+1) m (l.map (dist t m))=if l.map (dist t (m+1))=l.map (dist t m) then l.map (dist t m) else fars t l n (m+1) (l.map (dist t (m+1))):=by
   show(let g:=more t l (l.map (dist t m)) m;if g=l.map (dist t m) then l.map (dist t m) else fars t l n (m+1) g)=_;rw[ZrE cl]
  rw[e];split
  ·rename_i h;exact⟨m,Nat.le_refl _,rfl,fun _=>h,by omega⟩
  ·obtain⟨k,h1,h2,h3,h4⟩:=ZlA cl n (m+1) (.inr trivial);exact⟨k,by omega,h2,fun z=>h3 (by omega),by omega⟩
theorem ZlB{t:Tale}{l:List St}:∀m:Nat,(∀j,j < m->l.map (dist t (j+1))≠l.map (dist t j))->m<=known (l.map (dist t m))
 |0,_=>Nat.zero_le _
 |m+1,h=>by
  have:=ZlB m fun j hj=>h j (by omega);have:=ZrF (h m (Nat.lt_succ_self m));omega
theorem ZlC{t:Tale}{l:List St}(cl:Za6 t l):∃k,farRow t l=l.map (dist t k)/\∀j,k<=j->l.map (dist t j)=l.map (dist t k):=by
 have e0:(l.map fun s=>if status t s=1 then some 0 else none)=l.map (dist t 0):=rfl;by_cases hex:∃j,j<=l.length/\l.map (dist t (j+1))=l.map (dist t j)
 ·obtain⟨k,h1,h2,h3,h4⟩:=ZlA (t:=t) cl l.length 0 (.inr trivial);refine⟨k,by unfold farRow;rw[e0];exact h2,?_⟩;by_cases hk:k < 0+l.length
  ·exact Zlz cl (h3 hk)
  ·obtain⟨j,hj,ej⟩:=hex;have hkl:k=l.length:=by omega
   have f:=Zlz cl ej;intro i hi;rw[f i (by omega),f k (by omega)]
 ·exfalso;have:=ZlB (t:=t) (l:=l) (l.length+1) fun j hj e=>hex ⟨j,by omega,e⟩;have h2:known (l.map (dist t (l.length+1)))<=l.length:=by
   unfold known;exact Nat.le_trans List.countP_le_length (by simp)
  omega
structure Zd7(t:Tale)(s:St)(o:Option Nat):Prop where
 yes:∀n,o=some n->wonIn t n s=true/\∀j,j < n->wonIn t j s=false
 no:o=none->∀n,wonIn t n s=false
theorem Zd7.uniq{t:Tale}{s:St}{a b:Option Nat}(x:Zd7 t s a)(y:Zd7 t s b):a=b:=by
 cases a with
 |none =>
  cases b with
  |none=>rfl
  |some n =>
   have:=(y.yes n rfl).1;rw[x.no rfl n] at this;cases this
 |some m =>
  cases b with
  |none =>
   have:=(x.yes m rfl).1;rw[y.no rfl m] at this;cases this
  |some n =>
   obtain⟨h1,h2⟩:=x.yes m rfl;obtain⟨h3,h4⟩:=y.yes n rfl;have:m=n:=by
    rcases Nat.lt_trichotomy m n with z|z|z
    ·have:=h4 m z;rw[h1] at this;cases this
    ·exact z
    ·have:=h2 n z;rw[h3] at this;cases this
   rw[this]
theorem ZlD{t:Tale}{l:List St}(cl:Za6 t l){i:Nat}{s:St}(h:l[i]?=some s):∃o,(farRow t l)[i]?=some o/\Zd7 t s o:=by
 obtain⟨k,e,st⟩:=ZlC cl;refine⟨dist t k s,by rw[e,List.getElem?_map,h];rfl,fun n hn=>(Zly t k s n hn).2,fun hn n=>?_⟩;have hs:s∈l:=List.mem_of_getElem? h;cases z:wonIn t n s with
 |false=>rfl
 |true =>
  have h1:wonIn t (max k n) s=true:=ZhJ t (Nat.le_max_right _ _) s z;have h2:=List.map_inj_left.mp (st (max k n) (Nat.le_max_left _ _)) s hs;rw[←ZfO,h2,hn] at h1;cases h1
theorem ZfP{t:Tale}{l:List St}(cl:Za6 t l){s:St}(h:s∈l):Zd7 t s (far t l s):=by
 obtain⟨o,e,x⟩:=ZlD cl (Zd6 h);unfold far;rw[e];exact x
theorem ZrG{t:Tale}{l:List St}(cl:Za6 t l):farRow t l=l.map (far t l):=by
 obtain⟨k,e,st⟩:=ZlC cl;rw[e];refine List.map_congr_left fun s hs=>?_;obtain⟨i,hi,ei⟩:=List.getElem_of_mem hs;obtain⟨o,e1,x⟩:=ZlD cl (i:=i) (s:=s) (by rw[List.getElem?_eq_getElem hi,ei]);rw[e,List.getElem?_map,List.getElem?_eq_getElem hi,ei] at e1;have e2:dist t k s=o:=Option.some.inj e1;rw[e2];exact x.uniq (ZfP cl hs)
theorem ZrH{t:Tale}{l:List St}(cl:Za6 t l):stuck t l=l.filter fun s=>decide (status t s=0/\far t l s=none):=by
 unfold stuck;rw[ZrG cl];generalize far t l=f;clear cl;induction l with
 |nil=>rfl
 |cons s l ih =>
  rw[List.map_cons,List.zip_cons_cons,List.filterMap_cons,List.filter_cons,ih];by_cases h:status t s=0/\f s=none
  ·simp[h]
  ·simp[h]
end Tl
namespace Tl
open Kgf1 Kgf2
theorem ZcT{α:Type}{l:List α}(h:l.Nodup){i j:Nat}{hi:i < l.length}{hj:j < l.length}(e:l[i]=l[j]):i=j:=by
 have p:=List.pairwise_iff_getElem.mp h;rcases Nat.lt_trichotomy i j with z|z|z
 ·exact absurd e (p i j hi hj z)
 ·exact z
 ·exact absurd e.symm (p j i hj hi z)
theorem and_zero{x y:Nat}:x &&& y=0↔∀i,x.testBit i=true->y.testBit i=false:=by
 constructor
 ·intro h i hx;have e:(x &&& y).testBit i=false:=by rw[h];exact Nat.zero_testBit i
  rw[Nat.testBit_and,hx,Bool.true_and] at e;exact e
 ·intro h;refine Nat.eq_of_testBit_eq fun i=>?_;rw[Nat.testBit_and,Nat.zero_testBit];cases hx:x.testBit i with
  |false=>rfl
  |true=>rw[h i hx];rfl
theorem ZlE(a b:Nat):(a ||| b)+(a &&& b)=a+b:=by
 have key:∀(n a b:Nat),a<=n->(a ||| b)+(a &&& b)=a+b:=by
  intro n;induction n with
  |zero =>
   intro a b h;rw[Nat.le_zero.mp h,Nat.zero_or,Nat.zero_and,Nat.zero_add,Nat.add_zero]
  |succ n ih =>
   intro a b h;by_cases ha:a=0
   ·rw[ha,Nat.zero_or,Nat.zero_and,Nat.zero_add,Nat.add_zero]
   ·have i1:=ih (a / 2) (b / 2) (by omega);have m:(a ||| b) % 2+(a &&& b) % 2=a % 2+b % 2:=by
     rw[show(a ||| b) % 2=a % 2 ||| b % 2 from Nat.or_mod_two_pow (n:=1),show(a &&& b) % 2=a % 2 &&& b % 2 from Nat.and_mod_two_pow (n:=1)];rcases Nat.mod_two_eq_zero_or_one a with e|e<;>rcases Nat.mod_two_eq_zero_or_one b with e'|e'<;>rw[e,e']<;>rfl
    rw[←Nat.or_div_two,←Nat.and_div_two] at i1;have d1:=Nat.div_add_mod (a ||| b) 2;have d2:=Nat.div_add_mod (a &&& b) 2;have d3:=Nat.div_add_mod a 2;have d4:=Nat.div_add_mod b 2;generalize (a ||| b) / 2=p1,(a ||| b) % 2=q1,(a &&& b) / 2=p2,(a &&& b) % 2=q2,a / 2=p3,a % 2=q3,b / 2=p4,b % 2=q4 at *;rw[←d1,←d2,←d3,←d4,Nat.add_add_add_comm,←Nat.mul_add,i1,m,Nat.mul_add,Nat.add_add_add_comm]
 exact key a a b (Nat.le_refl _)
theorem ZlF(x y:Nat)(h:x &&& y=0):x+y=x ||| y:=by
 rw[←ZlE,h,Nat.add_zero]
theorem ZhK{x y:Nat}(h:∀i,x.testBit i=true->y.testBit i=false)(i:Nat):(x+y).testBit i=(x.testBit i||y.testBit i):=by
 rw[ZlF x y (and_zero.mpr h),Nat.testBit_or]
theorem ZfQ{x y:Nat}(h:∀i,y.testBit i=true->x.testBit i=true):y<=x/\∀i,(x - y).testBit i=(x.testBit i&&!y.testBit i):=by
 have e:(x ^^^ y)+y=x:=by
  rw[ZlF _ _]
  ·refine Nat.eq_of_testBit_eq fun i=>?_;rw[Nat.testBit_or,Nat.testBit_xor];have:=h i;cases hx:x.testBit i<;>cases hy:y.testBit i<;>simp_all
  ·refine and_zero.mpr fun i=>?_;rw[Nat.testBit_xor];have:=h i;cases hx:x.testBit i<;>cases hy:y.testBit i<;>simp_all
 refine⟨by omega,fun i=>?_⟩;have e2:x - y=x ^^^ y:=by omega
 rw[e2,Nat.testBit_xor];have:=h i;cases hx:x.testBit i<;>cases hy:y.testBit i<;>simp_all
theorem ZaX(a i:Nat):(2 ^ a).testBit i=decide (a=i):=by
 rw[Nat.testBit_two_pow]
theorem ZfR:∀{l:List Nat},l.Pairwise (fun a b=>∀i,a.testBit i=true->b.testBit i=false)->∀i,l.sum.testBit i=l.any fun a=>a.testBit i
 |[],_,i=>by simp
 |a::l,h,i=>by
  rw[List.pairwise_cons] at h;have ih:=ZfR h.2;rw[List.sum_cons,ZhK (fun j hj=>?_),ih i]
  ·rfl
  ·rw[ih j,List.any_eq_false];intro b hb;rw[h.1 b hb j hj];decide
def off(sz:List Nat)(v:Nat):Nat:=(sz.take v).sum
theorem ZlG(sz:List Nat):off sz 0=0:=by simp[off]
theorem ZbT{sz:List Nat}{v k:Nat}(h:sz[v]?=some k):off sz (v+1)=off sz v+k:=by
 unfold off;rw[List.take_add_one,h];simp
theorem ZcU(sz:List Nat){v u:Nat}(h:v<=u):off sz v<=off sz u:=by
 induction h with
 |refl=>exact Nat.le_refl _
 |@step u _ ih =>
  cases e:sz[u]? with
  |none =>
   have e2:off sz (u+1)=off sz u:=by
    unfold off;rw[List.take_add_one,e];simp
   rw[e2];exact ih
  |some k=>rw[ZbT e];omega
abbrev ix(sz:List Nat)(v c:Nat):Nat:=off sz v+c
theorem Zd8{sz:List Nat}{v u c d k m:Nat}(hv:sz[v]?=some k)(hu:sz[u]?=some m)(hc:c < k)(hd:d < m)(e:ix sz v c=ix sz u d):v=u/\c=d:=by
 have h1:=ZbT hv;have h2:=ZbT hu;rcases Nat.lt_trichotomy v u with h|h|h
 ·have:=ZcU sz (show v+1<=u from h);unfold ix at e;omega
 ·subst h;unfold ix at e;exact⟨rfl,by omega⟩
 ·have:=ZcU sz (show u+1<=v from h);unfold ix at e;omega
theorem ZlH{sz:List Nat}{v c k:Nat}(hv:sz[v]?=some k)(hc:c < k):ix sz v c < off sz sz.length:=by
 have h1:=ZbT hv;have h2:=(List.getElem?_eq_some_iff.mp hv).1;have:=ZcU sz (show v+1<=sz.length from h2);unfold ix;omega
def row(sz:List Nat)(v k:Nat):List Nat:=(List.range k).map fun c=>2 ^ ix sz v c
theorem Zct(sz:List Nat)(v k:Nat)(i:Nat):(row sz v k).sum.testBit i=decide (off sz v<=i/\i < off sz v+k):=by
 rw[ZfR]
 ·unfold row;rw[List.any_map,Bool.eq_iff_iff,List.any_eq_true,decide_eq_true_eq];constructor
  ·rintro⟨c,hc,e⟩;rw[List.mem_range] at hc;have e':(2 ^ ix sz v c).testBit i=true:=e;rw[ZaX,decide_eq_true_eq] at e';unfold ix at e';omega
  ·intro h;refine⟨i - off sz v,by rw[List.mem_range];omega,?_⟩;show(2 ^ ix sz v (i - off sz v)).testBit i=true;rw[ZaX,decide_eq_true_eq];unfold ix;omega
 ·unfold row;rw[List.pairwise_map];refine List.Pairwise.imp ?_ List.pairwise_lt_range;intro a b hab j hj;rw[ZaX,decide_eq_true_eq] at hj;rw[ZaX,decide_eq_false_iff_not];unfold ix at *;omega
def rows(sz:List Nat):List (List Nat):=(List.range sz.length).map fun v=>row sz v (sz.getD v 0)
theorem getD_at{α:Type}{l:List α}{v:Nat}{k d:α}(h:l[v]?=some k):l.getD v d=k:=by rw[List.getD_eq_getElem?_getD,h];rfl
theorem ZlI{sz:List Nat}{v k:Nat}(h:sz[v]?=some k):(rows sz)[v]?=some (row sz v k):=by
 have hl:=(List.getElem?_eq_some_iff.mp h).1;unfold rows;rw[List.getElem?_map,List.getElem?_range hl];show some (row sz v (sz.getD v 0))=_;rw[getD_at h]
theorem ZeR(sz:List Nat):(rows sz).length=sz.length:=by unfold rows;rw[List.length_map,List.length_range]
theorem ZeS{sz:List Nat}{v k c:Nat}(h:c < k):(row sz v k)[c]?=some (2 ^ ix sz v c):=by
 unfold row;rw[List.getElem?_map,List.getElem?_range h];rfl
theorem ZlJ(sz:List Nat)(i:Nat):((rows sz).map List.sum).sum.testBit i=decide (i < off sz sz.length):=by
 have pw:((rows sz).map List.sum).Pairwise (fun a b=>∀i,a.testBit i=true->b.testBit i=false):=by
  unfold rows;rw[List.map_map,List.pairwise_map];refine List.Pairwise.imp_of_mem ?_ List.pairwise_lt_range;intro a b ha hb hab j hj;rw[List.mem_range] at ha hb;have hj':(row sz a (sz.getD a 0)).sum.testBit j=true:=hj;show(row sz b (sz.getD b 0)).sum.testBit j=false;rw[Zct,decide_eq_true_eq] at hj';rw[Zct,decide_eq_false_iff_not];have ea:sz[a]?=some (sz.getD a 0):=by rw[List.getD_eq_getElem?_getD,List.getElem?_eq_getElem ha];rfl
  have:=ZbT ea;have:=ZcU sz (show a+1<=b from hab);omega
 rw[ZfR pw,List.any_map,Bool.eq_iff_iff,List.any_eq_true,decide_eq_true_eq];constructor
 ·rintro⟨r,hr,e⟩;unfold rows at hr;obtain⟨v,hv,rfl⟩:=List.mem_map.mp hr;rw[List.mem_range] at hv;have e':(row sz v (sz.getD v 0)).sum.testBit i=true:=e;rw[Zct,decide_eq_true_eq] at e';have ea:sz[v]?=some (sz.getD v 0):=by rw[List.getD_eq_getElem?_getD,List.getElem?_eq_getElem hv];rfl
  have:=ZbT ea;have:=ZcU sz (show v+1<=sz.length from hv);omega
 ·intro h;suffices ∀n,n<=sz.length->i < off sz n->∃v,v < n/\off sz v<=i/\i < off sz v+sz.getD v 0 by
   obtain⟨v,hv,h1,h2⟩:=this sz.length (Nat.le_refl _) h;refine⟨row sz v (sz.getD v 0),?_,?_⟩
   ·unfold rows;exact List.mem_map.mpr ⟨v,List.mem_range.mpr hv,rfl⟩
   ·show(row sz v (sz.getD v 0)).sum.testBit i=true;rw[Zct,decide_eq_true_eq];exact⟨h1,h2⟩
  intro n;induction n with
  |zero=>intro _ h;rw[ZlG] at h;omega
  |succ n ih =>
   intro hn h;have ea:sz[n]?=some (sz.getD n 0):=by rw[List.getD_eq_getElem?_getD,List.getElem?_eq_getElem (by omega)];rfl
   have:=ZbT ea;by_cases hlt:i < off sz n
   ·obtain⟨v,hv,h1⟩:=ih (by omega) hlt;exact⟨v,by omega,h1⟩
   ·exact⟨n,by omega,by omega,by omega⟩
structure Ok(sz:List Nat)(s:St):Prop where
 len:s.length=sz.length
 lt:∀v c k:Nat,s[v]?=some c->sz[v]?=some k->c < k
def pk(sz:List Nat)(s:St):Nat:=((List.range sz.length).map fun v=>2 ^ ix sz v (s.getD v 0)).sum
theorem Ok.at_{sz:List Nat}{s:St}(h:Ok sz s){v:Nat}(hv:v < sz.length):∃c k:Nat,s[v]?=some c/\sz[v]?=some k/\c < k/\s.getD v 0=c:=by
 have hs:v < s.length:=by rw[h.len];exact hv
 have h1:s[v]?=some s[v]:=List.getElem?_eq_getElem hs;have h2:sz[v]?=some sz[v]:=List.getElem?_eq_getElem hv;exact⟨_,_,h1,h2,h.lt v _ _ h1 h2,getD_at h1⟩
theorem ZfS{sz:List Nat}{s:St}(h:Ok sz s)(i:Nat):(pk sz s).testBit i=true↔∃v,v < sz.length/\i=ix sz v (s.getD v 0):=by
 unfold pk;rw[ZfR]
 ·rw[List.any_map,List.any_eq_true];constructor
  ·rintro⟨v,hv,e⟩;have e':(2 ^ ix sz v (s.getD v 0)).testBit i=true:=e;rw[ZaX,decide_eq_true_eq] at e';exact⟨v,List.mem_range.mp hv,e'.symm⟩
  ·rintro⟨v,hv,e⟩;refine⟨v,List.mem_range.mpr hv,?_⟩;show(2 ^ ix sz v (s.getD v 0)).testBit i=true;rw[ZaX,decide_eq_true_eq];exact e.symm
 ·rw[List.pairwise_map];refine List.Pairwise.imp_of_mem ?_ List.pairwise_lt_range;intro a b ha hb hab j hj;rw[List.mem_range] at ha hb;rw[ZaX,decide_eq_true_eq] at hj;rw[ZaX,decide_eq_false_iff_not];intro e;obtain⟨c,k,_,h2,h3,h4⟩:=h.at_ ha;obtain⟨c',k',_,g2,g3,g4⟩:=h.at_ hb;rw[h4] at hj;rw[g4] at e;have:=(Zd8 h2 g2 h3 g3 (hj.trans e.symm)).1;omega
theorem Zd9{sz:List Nat}{s:St}(h:Ok sz s){v c k:Nat}(hv:sz[v]?=some k)(hc:c < k):(pk sz s).testBit (ix sz v c)=decide (s.getD v 0=c):=by
 rw[Bool.eq_iff_iff,ZfS h,decide_eq_true_eq];have hl:=(List.getElem?_eq_some_iff.mp hv).1;constructor
 ·rintro⟨u,hu,e⟩;obtain⟨c',k',_,g2,g3,g4⟩:=h.at_ hu;rw[g4] at e;obtain⟨e1,e2⟩:=Zd8 hv g2 hc g3 e;subst e1;rw[g4,e2]
 ·intro e;exact⟨v,hl,by rw[e]⟩
theorem ZlK{sz:List Nat}{s x:St}(h:Ok sz s)(g:Ok sz x)(e:pk sz s=pk sz x):s=x:=by
 refine List.ext_getElem? fun v=>?_;by_cases hv:v < sz.length
 ·obtain⟨c,k,h1,h2,h3,h4⟩:=h.at_ hv;obtain⟨d,m,g1,g2,g3,g4⟩:=g.at_ hv;have a:=Zd9 h h2 h3;rw[e,Zd9 g h2 h3,h4,g4] at a;have:d=c:=by simpa using a
  rw[h1,g1,this]
 ·rw[List.getElem?_eq_none_iff.mpr (by rw[h.len];omega),List.getElem?_eq_none_iff.mpr (by rw[g.len];omega)]
theorem ZrI{sz:List Nat}{s:St}(h:Ok sz s){i:Nat}(hb:(pk sz s).testBit i=true):i < off sz sz.length:=by
 obtain⟨v,hv,rfl⟩:=(ZfS h i).mp hb;obtain⟨c,k,_,h2,h3,h4⟩:=h.at_ hv;rw[h4];exact ZlH h2 h3
end Tl
namespace Tl
open Kgf1 Kgf2
def Fits(sz:List Nat)(c:Cond):Prop:=∀p∈c,∃k:Nat,sz[p.var]?=some k/\p.value < k
def Zcg(sz:List Nat)(p:Part):Nat:=if p.is then(row sz p.var (sz.getD p.var 0)).sum - 2 ^ ix sz p.var p.value else 2 ^ ix sz p.var p.value
def ZM(sz:List Nat)(c:Cond):Nat:=c.foldl (fun b p=>b ||| Zcg sz p) 0
theorem ZrJ(sz:List Nat){c:Cond}{i:Nat}{p:Part}(h:c[i]?=some p):ZM sz (c.take (i+1))=ZM sz (c.take i) ||| Zcg sz p:=by
 unfold ZM;rw[List.take_add_one,h,List.foldl_append];rfl
theorem ZlL{sz:List Nat}{v k c:Nat}(hc:c < k)(i:Nat)(h:(2 ^ ix sz v c).testBit i=true):(row sz v k).sum.testBit i=true:=by
 rw[ZaX,decide_eq_true_eq] at h;rw[Zct,decide_eq_true_eq];unfold ix at h;omega
theorem ZrK{sz:List Nat}{v k c:Nat}(hc:c < k):2 ^ ix sz v c<=(row sz v k).sum:=(ZfQ fun i=>ZlL hc i).1
theorem ZhL{sz:List Nat}{p:Part}{k:Nat}(hv:sz[p.var]?=some k)(hc:p.value < k)(i:Nat):(Zcg sz p).testBit i=true↔if p.is then(off sz p.var<=i/\i < off sz p.var+k)/\i≠ix sz p.var p.value else i=ix sz p.var p.value:=by
 unfold Zcg;rw[getD_at hv];cases p.is with
 |false =>
  simp only[Bool.false_eq_true,if_false];rw[ZaX,decide_eq_true_eq];exact⟨Eq.symm,Eq.symm⟩
 |true =>
  simp only[if_true];rw[(ZfQ fun j=>ZlL hc j).2 i,Zct,ZaX,Bool.and_eq_true,decide_eq_true_eq,Bool.not_eq_true',decide_eq_false_iff_not];exact⟨fun z=>⟨z.1,fun e=>z.2 e.symm⟩,fun z=>⟨z.1,fun e=>z.2 e.symm⟩⟩
theorem ZlM{α:Type}(f:α->Nat):∀(l:List α)(b i:Nat),(l.foldl (fun b p=>b ||| f p) b).testBit i=(b.testBit i||l.any fun p=>(f p).testBit i)
 |[],b,i=>by simp
 |a::l,b,i=>by
  rw[List.foldl_cons,ZlM f l,Nat.testBit_or,List.any_cons,Bool.or_assoc]
theorem ZhM(sz:List Nat)(c:Cond)(i:Nat):(ZM sz c).testBit i=c.any fun p=>(Zcg sz p).testBit i:=by
 unfold ZM;rw[ZlM,Nat.zero_testBit,Bool.false_or]
theorem ZlN{sz:List Nat}{s:St}(h:Ok sz s){p:Part}{k:Nat}(hv:sz[p.var]?=some k)(hc:p.value < k):(∃i,(pk sz s).testBit i=true/\(Zcg sz p).testBit i=true)↔((s.getD p.var 0==p.value)==p.is)=false:=by
 have hl:=(List.getElem?_eq_some_iff.mp hv).1;obtain⟨c,k',h1,h2,h3,h4⟩:=h.at_ hl;rw[hv] at h2;cases h2;constructor
 ·rintro⟨i,hi,hb⟩;rw[ZhL hv hc] at hb;cases hp:p.is with
  |false =>
   rw[hp] at hb;simp only[Bool.false_eq_true,if_false] at hb;rw[hb,Zd9 h hv hc,decide_eq_true_eq] at hi;rw[hi];simp
  |true =>
   rw[hp] at hb;simp only[if_true] at hb;obtain⟨⟨b1,b2⟩,b3⟩:=hb;have e:i=ix sz p.var (i - off sz p.var):=by unfold ix;omega
   rw[e,Zd9 h hv (by omega),decide_eq_true_eq] at hi;have:s.getD p.var 0≠p.value:=fun z=>b3 (by rw[e,←hi,z]);simpa using this
 ·intro hb;refine⟨ix sz p.var (s.getD p.var 0),?_,?_⟩
  ·rw[Zd9 h hv (by rw[h4];exact h3),decide_eq_true_eq]
  ·rw[ZhL hv hc];cases hp:p.is with
   |false =>
    rw[hp] at hb;simp only[Bool.false_eq_true,if_false];have:s.getD p.var 0=p.value:=by simpa using hb
    rw[this]
   |true =>
    rw[hp] at hb;simp only[if_true];have hne:s.getD p.var 0≠p.value:=by simpa using hb
    rw[h4] at hne ⊢;refine⟨⟨by unfold ix;omega,by unfold ix;omega⟩,fun e=>hne ?_⟩;unfold ix at e;omega
theorem ZhN{sz:List Nat}{s:St}(h:Ok sz s){c:Cond}(hf:Fits sz c):(pk sz s &&& ZM sz c=0)↔holds s c=true:=by
 rw[and_zero];unfold holds;rw[List.all_eq_true];constructor
 ·intro hz p hp;obtain⟨k,hv,hc⟩:=hf p hp;cases e:((s.getD p.var 0==p.value)==p.is) with
  |true=>rfl
  |false =>
   obtain⟨i,h1,h2⟩:=(ZlN h hv hc).mpr e;have:=hz i h1;rw[ZhM,List.any_eq_false] at this;exact absurd h2 (this p hp)
 ·intro hz i hi;rw[ZhM,List.any_eq_false];intro p hp hb;obtain⟨k,hv,hc⟩:=hf p hp;have:=(ZlN h hv hc).mp ⟨i,hi,hb⟩;rw[hz p hp] at this;cases this
theorem ZrL{sz:List Nat}{p:Part}{k:Nat}(hv:sz[p.var]?=some k)(hc:p.value < k){i:Nat}(hb:(Zcg sz p).testBit i=true):i < off sz sz.length:=by
 rw[ZhL hv hc] at hb;have h1:=ZbT hv;have:=ZcU sz (show p.var+1<=sz.length from(List.getElem?_eq_some_iff.mp hv).1);split at hb
 ·omega
 ·rw[hb];unfold ix;omega
theorem ZlO{sz:List Nat}{c:Cond}(hf:Fits sz c){i:Nat}(hb:(ZM sz c).testBit i=true):i < off sz sz.length:=by
 rw[ZhM,List.any_eq_true] at hb;obtain⟨p,hp,hb⟩:=hb;obtain⟨k,hv,hc⟩:=hf p hp;exact ZrL hv hc hb
def stB(sz:List Nat)(t:Tale)(x:Nat):Nat:=if t.losts.any (fun c=>decide (x &&& ZM sz c=0)) then 2 else if t.wons.any (fun c=>decide (x &&& ZM sz c=0)) then 1 else 0
theorem any_congr{α:Type}{l:List α}{f g:α->Bool}(h:∀a∈l,f a=g a):l.any f=l.any g:=by
 induction l with
 |nil=>rfl
 |cons a l ih=>rw[List.any_cons,List.any_cons,h a List.mem_cons_self,ih fun b hb=>h b (List.mem_cons_of_mem _ hb)]
theorem ZlP{sz:List Nat}{s:St}(h:Ok sz s){c:Cond}(hf:Fits sz c):decide (pk sz s &&& ZM sz c=0)=holds s c:=by
 rw[Bool.eq_iff_iff,decide_eq_true_eq];exact ZhN h hf
theorem ZrM{sz:List Nat}{t:Tale}{s:St}(h:Ok sz s)(hw:∀c∈t.wons,Fits sz c)(hl:∀c∈t.losts,Fits sz c):stB sz t (pk sz s)=status t s:=by
 unfold stB status;rw[any_congr (fun c hc=>ZlP h (hl c hc)),any_congr (fun c hc=>ZlP h (hw c hc))]
def Zbc(sz:List Nat)(c:Cond):Nat:=c.foldl (fun b p=>b - (row sz p.var (sz.getD p.var 0)).sum) ((rows sz).map List.sum).sum
def putN(sz:List Nat)(c:Cond):Nat:=c.foldl (fun b p=>b+2 ^ ix sz p.var p.value) 0
theorem ZlQ(sz:List Nat){c:Cond}{i:Nat}{p:Part}(h:c[i]?=some p):Zbc sz (c.take (i+1))=Zbc sz (c.take i) - (row sz p.var (sz.getD p.var 0)).sum:=by
 unfold Zbc;rw[List.take_add_one,h,List.foldl_append];rfl
theorem ZlR(sz:List Nat){c:Cond}{i:Nat}{p:Part}(h:c[i]?=some p):putN sz (c.take (i+1))=putN sz (c.take i)+2 ^ ix sz p.var p.value:=by
 unfold putN;rw[List.take_add_one,h,List.foldl_append];rfl
theorem ZlS{sz:List Nat}{c:Cond}(hf:Fits sz c)(hn:(c.map Part.var).Nodup):∀n,n<=c.length->∀i,(Zbc sz (c.take n)).testBit i=true↔i < off sz sz.length/\∀p∈c.take n,¬(off sz p.var<=i/\i < off sz p.var+sz.getD p.var 0):=by
 intro n;induction n with
 |zero =>
  intro _ i;show(((rows sz).map List.sum).sum.testBit i=true)↔_;rw[ZlJ,decide_eq_true_eq];simp
 |succ n ih =>
  intro hn' i;obtain⟨p,hp⟩:∃p,c[n]?=some p:=⟨_,List.getElem?_eq_getElem (by omega)⟩
  obtain⟨k,hv,hc⟩:=hf p (List.mem_of_getElem? hp);have sub:∀j,(row sz p.var (sz.getD p.var 0)).sum.testBit j=true->(Zbc sz (c.take n)).testBit j=true:=by
   intro j hj;rw[Zct,decide_eq_true_eq,getD_at hv] at hj;rw[ih (by omega)];have h1:=ZbT hv;have h2:=ZcU sz (show p.var+1<=sz.length from(List.getElem?_eq_some_iff.mp hv).1);refine⟨by omega,fun q hq hjq=>?_⟩;obtain⟨k',hv',hc'⟩:=hf q (List.mem_of_mem_take hq);rw[getD_at hv'] at hjq;have e:ix sz p.var (j - off sz p.var)=ix sz q.var (j - off sz q.var):=by unfold ix;omega
   have evar:=(Zd8 hv hv' (by omega) (by omega) e).1;obtain⟨m,hm,eq⟩:=List.getElem_of_mem hq;rw[List.length_take] at hm;rw[List.getElem_take] at eq;obtain⟨hnl,ep⟩:=List.getElem?_eq_some_iff.mp hp;have a1:(c.map Part.var)[m]'(by rw[List.length_map];omega)=(c.map Part.var)[n]'(by rw[List.length_map];omega):=by
    rw[List.getElem_map,List.getElem_map,eq,ep,evar]
   have:=ZcT hn a1;omega
  rw[ZlQ sz hp,(ZfQ sub).2,Bool.and_eq_true,ih (by omega),Bool.not_eq_true',Zct,decide_eq_false_iff_not,List.take_add_one,hp];constructor
  ·rintro⟨⟨h1,h2⟩,h3⟩;refine⟨h1,fun q hq=>?_⟩;rcases List.mem_append.mp hq with hq|hq
   ·exact h2 q hq
   ·have:q=p:=by simpa using hq
    rw[this];exact h3
  ·rintro⟨h1,h2⟩;exact⟨⟨h1,fun q hq=>h2 q (List.mem_append_left _ hq)⟩,h2 p (List.mem_append_right _ (by simp))⟩
theorem ZrN{sz:List Nat}{c:Cond}(hf:Fits sz c)(hn:(c.map Part.var).Nodup):∀n,n<=c.length->∀i,(putN sz (c.take n)).testBit i=true↔∃p∈c.take n,i=ix sz p.var p.value:=by
 intro n;induction n with
 |zero =>
  intro _ i;show((0:Nat).testBit i=true)↔_;rw[Nat.zero_testBit];simp
 |succ n ih =>
  intro hn' i;obtain⟨p,hp⟩:∃p,c[n]?=some p:=⟨_,List.getElem?_eq_getElem (by omega)⟩
  obtain⟨k,hv,hc⟩:=hf p (List.mem_of_getElem? hp);have apart:∀j,(putN sz (c.take n)).testBit j=true->(2 ^ ix sz p.var p.value).testBit j=false:=by
   intro j hj;obtain⟨q,hq,e⟩:=(ih (by omega) j).mp hj;rw[ZaX,decide_eq_false_iff_not];intro e2;obtain⟨k',hv',hc'⟩:=hf q (List.mem_of_mem_take hq);have evar:=(Zd8 hv hv' hc hc' (e2.trans e)).1;obtain⟨m,hm,eq⟩:=List.getElem_of_mem hq;rw[List.length_take] at hm;rw[List.getElem_take] at eq;obtain⟨hnl,ep⟩:=List.getElem?_eq_some_iff.mp hp;have a1:(c.map Part.var)[m]'(by rw[List.length_map];omega)=(c.map Part.var)[n]'(by rw[List.length_map];omega):=by
    rw[List.getElem_map,List.getElem_map,eq,ep,evar]
   have:=ZcT hn a1;omega
  rw[ZlR sz hp,ZhK apart,Bool.or_eq_true,ih (by omega),ZaX,decide_eq_true_eq,List.take_add_one,hp];constructor
  ·rintro(⟨q,hq,e⟩|e)
   ·exact⟨q,List.mem_append_left _ hq,e⟩
   ·exact⟨p,List.mem_append_right _ (by simp),e.symm⟩
  ·rintro⟨q,hq,e⟩;rcases List.mem_append.mp hq with hq|hq
   ·exact .inl ⟨q,hq,e⟩
   ·have:q=p:=by simpa using hq
    rw[this] at e;exact .inr e.symm
theorem ZhO(s:St):∀(c:Cond),(c.map Part.var).Nodup->∀v,(∀p∈c,p.var < s.length)->(changed s c).getD v 0=match c.find? (fun p=>p.var==v) with
  |some p=>p.value
  |none=>s.getD v 0:=by
 intro c;unfold changed;induction c generalizing s with
 |nil=>intro _ v _;rfl
 |cons p c ih =>
  intro hn v hl;rw[List.map_cons,List.nodup_cons] at hn;rw[List.foldl_cons,ih (s.set p.var p.value) hn.2 v (fun q hq=>by rw[List.length_set];exact hl q (List.mem_cons_of_mem _ hq)),List.find?_cons];by_cases hv:p.var=v
  ·have hb:(p.var==v)=true:=by simpa using hv
   rw[hb];have:c.find? (fun q=>q.var==v)=none:=List.find?_eq_none.mpr fun q hq hqv=>hn.1 (List.mem_map.mpr ⟨q,hq,by rw[hv];simpa using hqv⟩);rw[this];show(s.set p.var p.value).getD v 0=p.value;rw[List.getD_eq_getElem?_getD,←hv,List.getElem?_set_self (hl p List.mem_cons_self)];rfl
  ·have hb:(p.var==v)=false:=by simpa using hv
   rw[hb];cases c.find? (fun q=>q.var==v) with
   |some q=>rfl
   |none =>
    show(s.set p.var p.value).getD v 0=s.getD v 0;rw[List.getD_eq_getElem?_getD,List.getD_eq_getElem?_getD,List.getElem?_set_ne hv]
theorem ZfT{sz:List Nat}{s:St}(h:Ok sz s){c:Cond}(hf:Fits sz c):Ok sz (changed s c):=by
 unfold changed;induction c generalizing s with
 |nil=>exact h
 |cons p c ih =>
  rw[List.foldl_cons];refine ih ⟨by rw[List.length_set,h.len],fun v d k hd hk=>?_⟩ fun q hq=>hf q (List.mem_cons_of_mem _ hq);obtain⟨k',hv,hc⟩:=hf p List.mem_cons_self;by_cases hvv:p.var=v
  ·subst hvv;rw[hv] at hk;cases hk;have hl:=(List.getElem?_eq_some_iff.mp hv).1;rw[List.getElem?_set_self (by rw[h.len];exact hl)] at hd;cases hd;exact hc
  ·rw[List.getElem?_set_ne hvv] at hd;exact h.lt v d k hd hk
theorem ZrO{sz:List Nat}{s:St}(h:Ok sz s){c:Cond}(hf:Fits sz c)(hn:(c.map Part.var).Nodup):(pk sz s &&& Zbc sz c) ||| putN sz c=pk sz (changed s c):=by
 have hl:∀p∈c,p.var < s.length:=fun p hp=>by
  obtain⟨k,hv,_⟩:=hf p hp;rw[h.len];exact(List.getElem?_eq_some_iff.mp hv).1
 have kb:=ZlS hf hn c.length (Nat.le_refl _);have pb:=ZrN hf hn c.length (Nat.le_refl _);rw[List.take_length] at kb pb;refine Nat.eq_of_testBit_eq fun i=>?_;rw[Nat.testBit_or,Nat.testBit_and,Bool.eq_iff_iff,Bool.or_eq_true,Bool.and_eq_true,ZfS (ZfT h hf),ZfS h,kb,pb];constructor
 ·rintro(⟨⟨v,hv,rfl⟩,_,h2⟩|⟨p,hp,rfl⟩)
  ·refine⟨v,hv,?_⟩;rw[ZhO s c hn v hl];have:c.find? (fun p=>p.var==v)=none:=List.find?_eq_none.mpr fun p hp e=>by
    have e':p.var=v:=by simpa using e
    refine h2 p hp ?_;obtain⟨d,k,g1,g2,g3,g4⟩:=h.at_ hv;rw[e',getD_at g2,g4];unfold ix;omega
   rw[this]
  ·obtain⟨k,hv,hc⟩:=hf p hp;refine⟨p.var,(List.getElem?_eq_some_iff.mp hv).1,?_⟩;rw[ZhO s c hn p.var hl];have:c.find? (fun q=>q.var==p.var)=some p:=by
    cases e:c.find? (fun q=>q.var==p.var) with
    |none=>exact absurd (List.find?_eq_none.mp e p hp) (by simp)
    |some q =>
     have hq:=List.mem_of_find?_eq_some e;have hqv:q.var=p.var:=by simpa using List.find?_some e
     obtain⟨a,ha,ea⟩:=List.getElem_of_mem hp;obtain⟨b,hb,eb⟩:=List.getElem_of_mem hq;have:(c.map Part.var)[b]'(by rw[List.length_map];exact hb)=(c.map Part.var)[a]'(by rw[List.length_map];exact ha):=by rw[List.getElem_map,List.getElem_map,ea,eb,hqv]
     have:=ZcT hn this;subst this;rw[←ea,←eb]
   rw[this]
 ·rintro⟨v,hv,rfl⟩;rw[ZhO s c hn v hl];cases e:c.find? (fun p=>p.var==v) with
  |some p =>
   have hp:=List.mem_of_find?_eq_some e;have hpv:p.var=v:=by simpa using List.find?_some e
   exact .inr ⟨p,hp,by rw[hpv]⟩
  |none =>
   obtain⟨d,k,g1,g2,g3,g4⟩:=h.at_ hv;refine .inl ⟨⟨v,hv,rfl⟩,by show ix sz v (s.getD v 0) < _;rw[g4];exact ZlH g2 g3,fun p hp hin=>?_⟩;have hne:p.var≠v:=fun z=>by
    have:=List.find?_eq_none.mp e p hp;simp[z] at this
   obtain⟨k',hv',hc'⟩:=hf p hp;simp only[g4] at hin;rw[getD_at hv'] at hin;have e2:ix sz v d=ix sz p.var (ix sz v d - off sz p.var):=by unfold ix at *;omega
   exact hne (Zd8 g2 hv' g3 (by unfold ix at *;omega) e2).1.symm
end Tl
namespace Tl
open Kgf1 Kgf2
theorem ZrP(sz:List Nat):((rows sz).map List.sum).sum+1=2 ^ off sz sz.length:=by
 have e:((rows sz).map List.sum).sum=2 ^ off sz sz.length - 1:=Nat.eq_of_testBit_eq fun i=>by rw[ZlJ,Nat.testBit_two_pow_sub_one]
 have:=Nat.two_pow_pos (off sz sz.length);omega
def uniq(ws:List Bytes):List Bytes:=ws.foldl (fun l w=>if w∈l then l else l++[w]) []
theorem ZfU{ws:List Bytes}{k:Nat}{w:Bytes}(h:ws[k]?=some w):uniq (ws.take (k+1))=if w∈uniq (ws.take k) then uniq (ws.take k) else uniq (ws.take k)++[w]:=by
 unfold uniq;rw[List.take_add_one,h,List.foldl_append];rfl
theorem ZrQ(ws:List Bytes):∀{j k:Nat},j<=k->uniq (ws.take j) <+: uniq (ws.take k):=by
 intro j k h;induction h with
 |refl=>exact List.prefix_refl _
 |@step k _ ih =>
  refine ih.trans ?_;cases e:ws[k]? with
  |none =>
   rw[List.take_add_one,e];simp
  |some w =>
   rw[ZfU e];split
   ·exact List.prefix_refl _
   ·exact List.prefix_append _ _
theorem ZhP{ws:List Bytes}{k:Nat}{w:Bytes}(h:ws[k]?=some w){n:Nat}(hn:k < n):w∈uniq (ws.take n):=by
 refine(ZrQ ws (show k+1<=n from hn)).subset ?_;rw[ZfU h];split
 ·assumption
 ·simp
theorem ZlT(ws:List Bytes):∀n,(uniq (ws.take n)).length<=n
 |0=>by simp[uniq]
 |n+1=>by
  have:=ZlT ws n;cases e:ws[n]? with
  |none =>
   rw[List.take_add_one,e];simp;omega
  |some w =>
   rw[ZfU e];split
   ·omega
   ·rw[List.length_append];show _+1<=_;omega
def mix(ws:List Bytes)(w:Bytes):Nat:=(uniq ws).idxOf w
theorem ZrR{ws:List Bytes}{j k:Nat}{w u:Bytes}(h:ws[j]?=some w)(g:ws[k]?=some u)(e:mix ws w=mix ws u):w=u:=by
 have m1:w∈uniq ws:=by
  have:=ZhP h (n:=ws.length) (List.getElem?_eq_some_iff.mp h).1;rwa [List.take_length] at this
 have m2:u∈uniq ws:=by
  have:=ZhP g (n:=ws.length) (List.getElem?_eq_some_iff.mp g).1;rwa [List.take_length] at this
 have a:=List.getElem_idxOf (List.idxOf_lt_length_iff.mpr m1);have b:=List.getElem_idxOf (List.idxOf_lt_length_iff.mpr m2);unfold mix at e;rw[←a,←b];exact getElem_congr_idx e
theorem ZhQ{t:Tale}{s:St}{k:Nat}{x:When}(h:t.whens[k]?=some x):does t s k=true↔holds s x.cond=true/\∀j y,j < k->t.whens[j]?=some y->y.words=x.words->holds s y.cond=false:=by
 unfold does;rw[h];show(done t s x.words==some k)=true↔_;rw[beq_iff_eq];unfold done;obtain⟨hk,ek⟩:=List.getElem?_eq_some_iff.mp h;rw[List.findIdx?_eq_some_iff_getElem];constructor
 ·rintro⟨h1,h2,h3⟩;rw[ek,Bool.and_eq_true] at h2;refine⟨h2.2,fun j y hj hy hw=>?_⟩;have:=h3 j hj;obtain⟨hjl,ej⟩:=List.getElem?_eq_some_iff.mp hy;rw[ej,hw,beq_self_eq_true,Bool.true_and] at this;exact Bool.eq_false_iff.mpr this
 ·rintro⟨h1,h2⟩;refine⟨hk,by rw[ek,h1,beq_self_eq_true];rfl,fun j hj=>?_⟩;have hjl:j < t.whens.length:=by omega
  intro z;rw[Bool.and_eq_true] at z;have:=h2 j _ hj (List.getElem?_eq_getElem hjl) (by simpa using z.1);rw[z.2] at this;cases this
abbrev wordsOf(t:Tale):List Bytes:=t.whens.map When.words
theorem ZlU{t:Tale}{k:Nat}{x:When}(h:t.whens[k]?=some x):(wordsOf t)[k]?=some x.words:=by rw[List.getElem?_map,h];rfl
abbrev ZbU(sz:List Nat)(t:Tale)(x:When):Nat:=2 ^ (off sz sz.length+mix (wordsOf t) x.words)
structure ZbH(sz:List Nat)(t:Tale)(s:St)(k m:Nat):Prop where
 bits:∀i,m.testBit i=true↔(pk sz s).testBit i=true\/∃j y,j < k/\t.whens[j]?=some y/\holds s y.cond=true/\i=off sz sz.length+mix (wordsOf t) y.words
theorem ZbH.start(sz:List Nat)(t:Tale)(s:St):ZbH sz t s 0 (pk sz s):=⟨fun i=>⟨.inl,fun h=>h.elim id fun⟨j,_,hj,_⟩=>absurd hj (Nat.not_lt_zero _)⟩⟩
theorem ZlV{sz:List Nat}{c:Cond}(hf:Fits sz c)(m i:Nat):(ZM sz c+2 ^ (off sz sz.length+m)).testBit i=((ZM sz c).testBit i||decide (off sz sz.length+m=i)):=by
 rw[ZhK,ZaX];intro j hj;have:=ZlO hf hj;rw[ZaX,decide_eq_false_iff_not];omega
theorem ZbH.test{sz:List Nat}{t:Tale}{s:St}{k m:Nat}{x:When}(M:ZbH sz t s k m)(ho:Ok sz s)(h:t.whens[k]?=some x)(hf:Fits sz x.cond):(m &&& (ZM sz x.cond+ZbU sz t x)=0)↔does t s k=true:=by
 rw[ZhQ h,and_zero];constructor
 ·intro hz;have nb:∀i,m.testBit i=true->(ZM sz x.cond).testBit i=false/\¬off sz sz.length+mix (wordsOf t) x.words=i:=fun i hi=>by
   have:=hz i hi;rw[ZlV hf,Bool.or_eq_false_iff,decide_eq_false_iff_not] at this;exact this
  refine⟨(ZhN ho hf).mp (and_zero.mpr fun i hi=>(nb i ((M.bits i).mpr (.inl hi))).1),fun j y hj hy hw=>?_⟩;cases e:holds s y.cond with
  |false=>rfl
  |true=>exact absurd (by rw[hw]) (nb _ ((M.bits _).mpr (.inr ⟨j,y,hj,hy,e,rfl⟩))).2
 ·rintro⟨h1,h2⟩ i hi;rw[ZlV hf,Bool.or_eq_false_iff,decide_eq_false_iff_not];rcases(M.bits i).mp hi with hp|⟨j,y,hj,hy,hh,rfl⟩
  ·refine⟨and_zero.mp ((ZhN ho hf).mpr h1) i hp,fun e=>?_⟩;have:=ZrI ho hp;omega
  ·refine⟨?_,fun e=>?_⟩
   ·cases e:(ZM sz x.cond).testBit (off sz sz.length+mix (wordsOf t) y.words) with
    |false=>rfl
    |true=>have:=ZlO hf e;omega
   ·have hw:y.words=x.words:=ZrR (ZlU hy) (ZlU h) (by omega);have:=h2 j y hj hy hw;rw[hh] at this;cases this
theorem ZbH.yes{sz:List Nat}{t:Tale}{s:St}{k m:Nat}{x:When}(M:ZbH sz t s k m)(h:t.whens[k]?=some x)(hd:does t s k=true):ZbH sz t s (k+1) (m ||| ZbU sz t x):=by
 refine⟨fun i=>?_⟩;rw[Nat.testBit_or,Bool.or_eq_true,M.bits,ZaX,decide_eq_true_eq];constructor
 ·rintro((hp|⟨j,y,hj,hy,hh,e⟩)|e)
  ·exact .inl hp
  ·exact .inr ⟨j,y,by omega,hy,hh,e⟩
  ·exact .inr ⟨k,x,by omega,h,((ZhQ h).mp hd).1,e.symm⟩
 ·rintro(hp|⟨j,y,hj,hy,hh,e⟩)
  ·exact .inl (.inl hp)
  ·by_cases hjk:j=k
   ·subst hjk;rw[h] at hy;cases hy;exact .inr e.symm
   ·exact .inl (.inr ⟨j,y,by omega,hy,hh,e⟩)
theorem ZbH.no{sz:List Nat}{t:Tale}{s:St}{k m:Nat}{x:When}(M:ZbH sz t s k m)(h:t.whens[k]?=some x)(hd:does t s k=false):ZbH sz t s (k+1) m:=by
 refine⟨fun i=>?_⟩;rw[M.bits];constructor
 ·rintro(hp|⟨j,y,hj,hy,hh,e⟩)
  ·exact .inl hp
  ·exact .inr ⟨j,y,by omega,hy,hh,e⟩
 ·rintro(hp|⟨j,y,hj,hy,hh,e⟩)
  ·exact .inl hp
  ·by_cases hjk:j=k
   ·subst hjk;rw[h] at hy;cases hy;by_cases hex:∃j' y',j' < j/\t.whens[j']?=some y'/\y'.words=x.words/\holds s y'.cond=true
    ·obtain⟨j',y',a,b,c,d⟩:=hex;exact .inr ⟨j',y',a,b,d,by rw[c];exact e⟩
    ·have:does t s j=true:=(ZhQ h).mpr ⟨hh,fun j' y' a b c=>by
      cases z:holds s y'.cond with
      |false=>rfl
      |true=>exact absurd ⟨j',y',a,b,c,z⟩ hex⟩
     rw[hd] at this;cases this
   ·exact .inr ⟨j,y,by omega,hy,hh,e⟩
def ZbI(l:List (St×Nat))(x:St)(k:Nat):List (St×Nat):=if x∈l.map Prod.fst then l else l++[(x,k)]
def ZI(t:Tale)(s:St):Nat->List (St×Nat)
 |0=>[]
 |k+1=>match t.whens[k]? with
  |some x=>if does t s k then ZbI (ZI t s k) (changed s x.change) k else ZI t s k
  |none=>ZI t s k
theorem ZcV{t:Tale}{s:St}{k:Nat}{x:When}(h:t.whens[k]?=some x)(hd:does t s k=true):ZI t s (k+1)=ZbI (ZI t s k) (changed s x.change) k:=by
 show(match t.whens[k]? with|some x=>if does t s k then ZbI (ZI t s k) (changed s x.change) k else ZI t s k|none=>ZI t s k)=_;rw[h];simp[hd]
theorem Zdw{t:Tale}{s:St}{k:Nat}(hd:does t s k=false):ZI t s (k+1)=ZI t s k:=by
 show(match t.whens[k]? with|some x=>if does t s k then ZbI (ZI t s k) (changed s x.change) k else ZI t s k|none=>ZI t s k)=_;split
 ·simp[hd]
 ·rfl
theorem ZeT{t:Tale}{s:St}(hs:status t s=0)(k:Nat):leads t s k=if does t s k=true then(t.whens[k]?).map fun x=>changed s x.change else none:=by
 unfold leads;simp only[hs,true_and]
theorem Zea{t:Tale}{s:St}{k:Nat}(h:does t s k=true):∃x,t.whens[k]?=some x:=by
 unfold does at h;split at h
 ·rename_i x e;exact⟨x,e⟩
 ·cases h
theorem ZhR(t:Tale)(s:St):∀n,(ZI t s n).length<=n
 |0=>Nat.le_refl _
 |n+1=>by
  have ih:=ZhR t s n;cases hd:does t s n with
  |false=>rw[Zdw hd];omega
  |true =>
   obtain⟨x,hx⟩:=Zea hd;rw[ZcV hx hd];unfold ZbI;split
   ·omega
   ·rw[List.length_append];show _+1<=_;omega
theorem ZeU{t:Tale}{s:St}(hs:status t s=0):∀n j x,j < n->leads t s j=some x->∃k,(x,k)∈ZI t s n
 |0,j,x,hj,_=>absurd hj (Nat.not_lt_zero _)
 |n+1,j,x,hj,h=>by
  cases hd:does t s n with
  |false =>
   rw[Zdw hd];by_cases e:j=n
   ·subst e;rw[ZeT hs,hd] at h;simp at h
   ·exact ZeU hs n j x (by omega) h
  |true =>
   obtain⟨y,hy⟩:=Zea hd;rw[ZcV hy hd];unfold ZbI;by_cases e:j=n
   ·subst e;rw[ZeT hs,if_pos hd,hy] at h;cases h;split
    ·rename_i hm;obtain⟨z,hz,ez⟩:=List.mem_map.mp hm;refine⟨z.2,?_⟩;show(changed s y.change,z.2)∈ZI t s j;rw[←ez];exact hz
    ·exact⟨j,by simp⟩
   ·obtain⟨k,hk⟩:=ZeU hs n j x (by omega) h;split
    ·exact⟨k,hk⟩
    ·exact⟨k,List.mem_append_left _ hk⟩
theorem ZeV{t:Tale}{s:St}(hs:status t s=0):∀n x k,(x,k)∈ZI t s n->k < n/\leads t s k=some x/\∀j,j < k->leads t s j≠some x
 |0,x,k,h=>by cases h
 |n+1,x,k,h=>by
  cases hd:does t s n with
  |false =>
   rw[Zdw hd] at h;obtain⟨a,b⟩:=ZeV hs n x k h;exact⟨by omega,b⟩
  |true =>
   obtain⟨y,hy⟩:=Zea hd;rw[ZcV hy hd] at h;unfold ZbI at h;split at h
   ·obtain⟨a,b⟩:=ZeV hs n x k h;exact⟨by omega,b⟩
   ·rename_i hn;rcases List.mem_append.mp h with h|h
    ·obtain⟨a,b⟩:=ZeV hs n x k h;exact⟨by omega,b⟩
    ·have e:(x,k)=(changed s y.change,n):=by simpa using h
     cases e;refine⟨by omega,by rw[ZeT hs,if_pos hd,hy];rfl,fun j hj e=>hn ?_⟩;have:∃k',(changed s y.change,k')∈ZI t s n:=ZeU hs n j _ hj e;obtain⟨k',hk'⟩:=this;exact List.mem_map.mpr ⟨_,hk',rfl⟩
theorem ZfV(t:Tale)(s:St):∀n,((ZI t s n).map Prod.fst).Nodup
 |0=>by simp[ZI]
 |n+1=>by
  cases hd:does t s n with
  |false=>rw[Zdw hd];exact ZfV t s n
  |true =>
   obtain⟨x,hx⟩:=Zea hd;rw[ZcV hx hd];unfold ZbI;split
   ·exact ZfV t s n
   ·rename_i hn;rw[List.map_append];refine List.nodup_append.mpr ⟨ZfV t s n,by simp,fun a ha b hb=>?_⟩;have:b=changed s x.change:=by simpa using hb
    rw[this];exact fun z=>hn (z▸ha)
theorem ZrS(l m:List St):∀ss:List St,(ss.foldl add m).foldl add l=ss.foldl add (m.foldl add l):=by
 intro ss;induction ss generalizing m with
 |nil=>rfl
 |cons a ss ih =>
  rw[List.foldl_cons,ih,List.foldl_cons];congr 1;by_cases h:m.contains a=true
  ·have h1:(m.foldl add l).contains a=true:=by
    rw[List.contains_iff_mem] at h ⊢;exact Zdu.mpr (.inr h)
   have e1:add m a=m:=if_pos h;have e2:add (m.foldl add l) a=m.foldl add l:=if_pos h1;rw[e1,e2]
  ·have e1:add m a=m++[a]:=if_neg h;rw[e1,List.foldl_append];rfl
theorem ZhS{t:Tale}{s:St}(hs:status t s=0):∀n,(ZI t s n).map Prod.fst=((List.range n).filterMap (leads t s)).foldl add []
 |0=>rfl
 |n+1=>by
  rw[List.range_succ,List.filterMap_append,List.foldl_append,←ZhS hs n];cases hd:does t s n with
  |false =>
   have e:leads t s n=none:=by rw[ZeT hs,hd];rfl
   rw[Zdw hd];simp[e]
  |true =>
   obtain⟨x,hx⟩:=Zea hd;have e:leads t s n=some (changed s x.change):=by rw[ZeT hs,if_pos hd,hx];rfl
   rw[ZcV hx hd];simp only[List.filterMap_cons,e,List.filterMap_nil,List.foldl_cons,List.foldl_nil];unfold ZbI add;by_cases hm:changed s x.change∈(ZI t s n).map Prod.fst
   ·rw[if_pos hm,if_pos (List.contains_iff_mem.mpr hm)]
   ·rw[if_neg hm,if_neg (fun z=>hm (List.contains_iff_mem.mp z)),List.map_append];rfl
def ZaR(t:Tale)(s:St):List St:=(ZI t s t.whens.length).map Prod.fst
theorem ZrT{t:Tale}{s:St}(hs:status t s=0)(l:List St):(ZaR t s).foldl add l=(after t s).foldl add l:=by
 unfold ZaR;rw[ZhS hs];exact ZrS l [] _
theorem ZlW{t:Tale}{s:St}(hs:status t s=0){x:St}:x∈ZaR t s↔x∈after t s:=by
 unfold ZaR;rw[ZhS hs,Zdu];show(x∈([]:List St)\/x∈after t s)↔_;simp
theorem ZlX{t:Tale}{s:St}(hs:status t s≠0):after t s=[]:=by
 unfold after;rw[List.filterMap_eq_nil_iff];intro k _;unfold leads;rw[if_neg fun z=>hs z.1]
end Tl
namespace Tl
open Kgf1 Kgf2
structure ZeW(t:Tale)(l:List St)(src:List (List Nat)):Prop where
 len:src.length=l.length
 mem:∀q p:Nat,(∃r,src[q]?=some r/\p∈r)↔∃sp sq,l[p]?=some sp/\l[q]?=some sq/\sq∈after t sp
abbrev fr(far:List (Option Nat))(p:Nat):Option Nat:=(far[p]?).join
theorem ZhT{far:List (Option Nat)}{p d:Nat}(h:fr far p=some d):p < far.length:=by
 unfold fr at h;cases e:far[p]? with
 |none=>rw[e] at h;cases h
 |some o=>exact(List.getElem?_eq_some_iff.mp e).1
theorem ZfW{far:List (Option Nat)}{p d:Nat}(h:p < far.length):fr (far.set p (some d)) p=some d:=by
 unfold fr;rw[List.getElem?_set_self h];rfl
theorem ZfX{far:List (Option Nat)}{p q d:Nat}(h:p≠q):fr (far.set p (some d)) q=fr far q:=by
 unfold fr;rw[List.getElem?_set_ne h]
structure Bfs(t:Tale)(l:List St)(src:List (List Nat))(far:List (Option Nat))(met:List Nat)(dn:Nat):Prop where
 Zcu:far.length=l.length
 inn:∀q:Nat,q∈met↔∃d,fr far q=some d
 nd:met.Nodup
 won:∀(p:Nat)(s:St),l[p]?=some s->status t s=1->fr far p=some 0
 sound:∀(p d:Nat)(s:St),fr far p=some d->l[p]?=some s->wonIn t d s=true
 back:∀(i q d p:Nat)(r:List Nat),i < dn->met[i]?=some q->fr far q=some d->src[q]?=some r->p∈r->∃e,fr far p=some e/\e<=d+1
 ord:∀(i j a b d e:Nat),i<=j->met[i]?=some a->met[j]?=some b->fr far a=some d->fr far b=some e->d<=e
 top:∀(j a b d e:Nat),met[dn]?=some a->met[j]?=some b->fr far a=some d->fr far b=some e->e<=d+1
 le:dn<=met.length
theorem ZlY{n:Nat}{m:List Nat}(nd:m.Nodup)(h:∀q∈m,q < n):m.length<=n:=by
 induction n generalizing m with
 |zero =>
  cases m with
  |nil=>exact Nat.le_refl _
  |cons a m=>exact absurd (h a List.mem_cons_self) (Nat.not_lt_zero _)
 |succ n ih =>
  by_cases hn:n∈m
  ·have e:m.length=(m.erase n).length+1:=by
    rw[List.length_erase_of_mem hn];have:=List.length_pos_of_mem hn;omega
   have:=ih (nd.erase n) fun q hq=>by
    have h1:=h q (List.mem_of_mem_erase hq);have h2:q≠n:=fun z=>by
     rw[z] at hq;exact(List.Nodup.not_mem_erase nd) hq
    omega
   omega
  ·have:=ih nd fun q hq=>by
    have h1:=h q hq;have h2:q≠n:=fun z=>hn (z▸hq);omega
   omega
theorem Bfs.ZlZ{t:Tale}{l:List St}{src:List (List Nat)}{far:List (Option Nat)}{met:List Nat}{dn:Nat}(B:Bfs t l src far met dn):met.length<=l.length:=by
 refine ZlY B.nd fun q hq=>?_;obtain⟨d,hd⟩:=(B.inn q).mp hq;rw[←B.Zcu];exact ZhT hd
def ZaY(t:Tale)(l:List St):List (Option Nat):=l.map fun s=>if status t s=1 then some 0 else none
def ZfY(t:Tale)(l:List St):List Nat:=(List.range l.length).filter fun p=>match l[p]? with
 |some s=>status t s==1
 |none=>false
theorem ZhU{t:Tale}{l:List St}{p:Nat}{s:St}(h:l[p]?=some s):fr (ZaY t l) p=if status t s=1 then some 0 else none:=by
 unfold fr ZaY;rw[List.getElem?_map,h];rfl
theorem ZfZ{t:Tale}{l:List St}{p d:Nat}(h:fr (ZaY t l) p=some d):d=0/\∃s,l[p]?=some s/\status t s=1:=by
 have hp:=ZhT h;unfold ZaY at hp;rw[List.length_map] at hp;have hs:l[p]?=some l[p]:=List.getElem?_eq_getElem hp;rw[ZhU hs] at h;split at h
 ·rename_i hw;cases h;exact⟨rfl,_,hs,hw⟩
 ·cases h
theorem ZrU(t:Tale)(l:List St)(src:List (List Nat)):Bfs t l src (ZaY t l) (ZfY t l) 0:=by
 refine⟨by unfold ZaY;rw[List.length_map],fun q=>?_,List.nodup_range.filter _,fun p s h hw=>by rw[ZhU h,if_pos hw],fun p d s h hs=>?_,fun i _ _ _ _ h=>absurd h (Nat.not_lt_zero _),?_,?_,Nat.zero_le _⟩
 ·unfold ZfY;rw[List.mem_filter,List.mem_range];constructor
  ·rintro⟨hq,e⟩;rw[List.getElem?_eq_getElem hq] at e;have e':status t l[q]=1:=by simpa using e
   exact⟨0,by rw[ZhU (List.getElem?_eq_getElem hq),if_pos e']⟩
  ·rintro⟨d,hd⟩;obtain⟨_,s,hs,hw⟩:=ZfZ hd;refine⟨(List.getElem?_eq_some_iff.mp hs).1,?_⟩;rw[hs];simpa using hw
 ·obtain⟨rfl,s',hs',hw⟩:=ZfZ h;rw[hs] at hs';cases hs';show(status t s==1)=true;simpa using hw
 ·intro i j a b d e _ _ _ hd he;rw[(ZfZ hd).1];exact Nat.zero_le _
 ·intro j a b d e _ _ hd he;rw[(ZfZ he).1];exact Nat.zero_le _
theorem Bfs.known{t:Tale}{l:List St}{src:List (List Nat)}{far:List (Option Nat)}{met:List Nat}{dn:Nat}(B:Bfs t l src far met dn){q p d e:Nat}(hq:met[dn]?=some q)(hd:fr far q=some d)(hp:fr far p=some e):e<=d+1:=by
 obtain⟨j,hj,ej⟩:=List.getElem_of_mem ((B.inn p).mpr ⟨e,hp⟩);exact B.top j q p d e hq (by rw[List.getElem?_eq_getElem hj,ej]) hd hp
theorem Bfs.meet{t:Tale}{l:List St}{src:List (List Nat)}{far:List (Option Nat)}{met:List Nat}{dn:Nat}(B:Bfs t l src far met dn)(S:ZeW t l src){q p d:Nat}{r:List Nat}(hq:met[dn]?=some q)(hd:fr far q=some d)(hr:src[q]?=some r)(hp:p∈r)(hn:fr far p=none) :
  Bfs t l src (far.set p (some (d+1))) (met++[p]) dn/\p < far.length:=by
 obtain⟨sp,sq,h1,h2,h3⟩:=(S.mem q p).mp ⟨r,hr,hp⟩;have hpl:p < far.length:=by rw[B.Zcu];exact(List.getElem?_eq_some_iff.mp h1).1
 have hpm:p∉met:=fun z=>by
  obtain⟨e,he⟩:=(B.inn p).mp z;rw[hn] at he;cases he
 have ne:∀{x e},fr far x=some e->p≠x:=fun{x e} h z=>by
  rw[←z,hn] at h;cases h
 have keep:∀{x e},fr far x=some e->fr (far.set p (some (d+1))) x=some e:=fun{x e} h=>by rw[ZfX (ne h)];exact h
 have dl:dn < met.length:=(List.getElem?_eq_some_iff.mp hq).1;have old:∀{x e},fr (far.set p (some (d+1))) x=some e->(x=p/\e=d+1)\/(x≠p/\fr far x=some e):=fun{x e} h=>by
  by_cases z:x=p
  ·rw[z,ZfW hpl] at h;cases h;exact .inl ⟨z,rfl⟩
  ·rw[ZfX (Ne.symm z)] at h;exact .inr ⟨z,h⟩
 have at_:∀{j b:Nat},(met++[p])[j]?=some b->(j < met.length/\met[j]?=some b)\/(j=met.length/\b=p):=fun{j b} h=>by
  by_cases z:j < met.length
  ·rw[List.getElem?_append_left z] at h;exact .inl ⟨z,h⟩
  ·rw[List.getElem?_append_right (by omega)] at h;have hj:j - met.length=0:=by
    have:=(List.getElem?_eq_some_iff.mp h).1;simp at this;omega
   rw[hj] at h;have:p=b:=by simpa using h
   exact .inr ⟨by omega,this.symm⟩
 have mne:∀{j b:Nat},met[j]?=some b->b≠p:=fun h z=>hpm (z▸List.mem_of_getElem? h);refine⟨⟨by rw[List.length_set,B.Zcu],fun x=>?_,?_,fun x s hs hw=>keep (B.won x s hs hw),fun x e s h hs=>?_,fun i a e x r' hi ha he hr' hx=>?_,fun i j a b e e' hij ha hb he he'=>?_,fun j a b e e' ha hb he he'=>?_,by rw[List.length_append];omega⟩,hpl⟩
 ·rw[List.mem_append];constructor
  ·rintro(h|h)
   ·obtain⟨e,he⟩:=(B.inn x).mp h;exact⟨e,keep he⟩
   ·have:x=p:=by simpa using h
    rw[this];exact⟨_,ZfW hpl⟩
  ·rintro⟨e,he⟩;rcases old he with⟨z,_⟩|⟨_,z⟩
   ·exact .inr (by simp[z])
   ·exact .inl ((B.inn x).mpr ⟨e,z⟩)
 ·refine List.nodup_append.mpr ⟨B.nd,by simp,fun a ha b hb=>?_⟩;have:b=p:=by simpa using hb
  rw[this];exact fun z=>hpm (z▸ha)
 ·rcases old h with⟨z,rfl⟩|⟨_,z⟩
  ·subst z;rw[h1] at hs;cases hs;rw[Zdv,Bool.or_eq_true,List.any_eq_true];exact .inr ⟨sq,h3,B.sound q d sq hd h2⟩
  ·exact B.sound x e s z hs
 ·rcases at_ ha with⟨_,ha⟩|⟨z,_⟩
  ·rcases old he with⟨z,_⟩|⟨_,he⟩
   ·exact absurd z (mne ha)
   ·obtain⟨e',h4,h5⟩:=B.back i a e x r' hi ha he hr' hx;exact⟨e',keep h4,h5⟩
  ·omega
 ·rcases at_ ha with⟨hi,ha⟩|⟨hi,za⟩
  ·rcases old he with⟨z,_⟩|⟨_,he⟩
   ·exact absurd z (mne ha)
   ·rcases at_ hb with⟨_,hb⟩|⟨_,zb⟩
    ·rcases old he' with⟨z,_⟩|⟨_,he'⟩
     ·exact absurd z (mne hb)
     ·exact B.ord i j a b e e' hij ha hb he he'
    ·rcases old he' with⟨_,ze⟩|⟨z,_⟩
     ·rw[ze];exact B.top i q a d e hq ha hd he
     ·exact absurd zb z
  ·rcases at_ hb with⟨hj,hb⟩|⟨_,zb⟩
   ·omega
   ·rw[za] at he;rw[zb] at he';rw[ZfW hpl] at he he';cases he;cases he';exact Nat.le_refl _
 ·rcases at_ ha with⟨_,ha⟩|⟨z,_⟩
  ·rw[hq] at ha;cases ha;rcases old he with⟨z,_⟩|⟨_,he⟩
   ·exact absurd z (mne hq)
   ·rw[hd] at he;cases he;rcases at_ hb with⟨_,hb⟩|⟨_,zb⟩
    ·rcases old he' with⟨z,_⟩|⟨_,he'⟩
     ·exact absurd z (mne hb)
     ·exact B.top j q b d e' hq hb hd he'
    ·rcases old he' with⟨_,ze⟩|⟨z,_⟩
     ·rw[ze];exact Nat.le_refl _
     ·exact absurd zb z
  ·omega
theorem Bfs.next{t:Tale}{l:List St}{src:List (List Nat)}{far:List (Option Nat)}{met:List Nat}{dn:Nat}(B:Bfs t l src far met dn){q d:Nat}{r:List Nat}(hq:met[dn]?=some q)(hd:fr far q=some d)(hr:src[q]?=some r)(hall:∀p∈r,∃e,fr far p=some e/\e<=d+1) :
  Bfs t l src far met (dn+1):=by
 have dl:dn < met.length:=(List.getElem?_eq_some_iff.mp hq).1;refine⟨B.Zcu,B.inn,B.nd,B.won,B.sound,fun i a e x r' hi ha he hr' hx=>?_,B.ord,fun j a b e e' ha hb he he'=>?_,dl⟩
 ·by_cases z:i=dn
  ·subst z;rw[hq] at ha;cases ha;rw[hd] at he;cases he;rw[hr] at hr';cases hr';exact hall x hx
  ·exact B.back i a e x r' (by omega) ha he hr' hx
 ·have h1:=B.ord dn (dn+1) q a d e (by omega) hq ha hd he;have h2:=B.top j q b d e' hq hb hd he';omega
theorem Bfs.is{t:Tale}{l:List St}{src:List (List Nat)}{far:List (Option Nat)}{met:List Nat}{dn:Nat}(B:Bfs t l src far met dn)(S:ZeW t l src)(cl:Za6 t l)(he:met.length<=dn){p:Nat}{s:St}(hs:l[p]?=some s):Zd7 t s (fr far p):=by
 have comp:∀(m p:Nat)(s:St),l[p]?=some s->wonIn t m s=true->∃e,fr far p=some e/\e<=m:=by
  intro m;induction m with
  |zero =>
   intro p s hs hw;have:status t s=1:=by
    have h:(status t s==1)=true:=hw;simpa using h
   exact⟨0,B.won p s hs this,Nat.le_refl _⟩
  |succ m ih =>
   intro p s hs hw;rw[Zdv,Bool.or_eq_true,List.any_eq_true] at hw;rcases hw with hw|⟨x,hx,hw⟩
   ·exact⟨0,B.won p s hs (by simpa using hw),Nat.zero_le _⟩
   ·obtain⟨q,hq,eq⟩:=List.getElem_of_mem (cl s x (List.mem_of_getElem? hs) hx);have hq':l[q]?=some x:=by rw[List.getElem?_eq_getElem hq,eq]
    obtain⟨d,hd,hdm⟩:=ih q x hq' hw;obtain⟨r,hr,hpr⟩:=(S.mem q p).mpr ⟨s,x,hs,hq',hx⟩;obtain⟨i,hi,ei⟩:=List.getElem_of_mem ((B.inn q).mpr ⟨d,hd⟩);obtain⟨e,h1,h2⟩:=B.back i q d p r (by omega) (by rw[List.getElem?_eq_getElem hi,ei]) hd hr hpr;exact⟨e,h1,by omega⟩
 refine⟨fun n hn=>⟨B.sound p n s hn hs,fun j hj=>?_⟩,fun hn m=>?_⟩
 ·cases z:wonIn t j s with
  |false=>rfl
  |true =>
   obtain⟨e,h1,h2⟩:=comp j p s hs z;rw[hn] at h1;cases h1;omega
 ·cases z:wonIn t m s with
  |false=>rfl
  |true =>
   obtain⟨e,h1,_⟩:=comp m p s hs z;rw[hn] at h1;cases h1
theorem Bfs.row{t:Tale}{l:List St}{src:List (List Nat)}{far:List (Option Nat)}{met:List Nat}{dn:Nat}(B:Bfs t l src far met dn)(S:ZeW t l src)(cl:Za6 t l)(he:met.length<=dn):far=l.map (Kgf2.far t l):=by
 refine List.ext_getElem? fun p=>?_;rw[List.getElem?_map];by_cases hp:p < l.length
 ·have hs:l[p]?=some l[p]:=List.getElem?_eq_getElem hp;have hf:far[p]?=some (far[p]'(by rw[B.Zcu];exact hp)):=List.getElem?_eq_getElem _;have h1:=B.is S cl he hs;have h2:=ZfP cl (List.getElem_mem hp);rw[hs,hf];show some _=some _;congr 1;have e:fr far p=far[p]'(by rw[B.Zcu];exact hp):=by
   unfold fr;rw[hf];rfl
  rw[←e];exact h1.uniq h2
 ·rw[List.getElem?_eq_none_iff.mpr (by rw[B.Zcu];omega),List.getElem?_eq_none_iff.mpr (by omega)];rfl
end Tl
namespace Tl
open Kgf1 Kgf2
structure Zbs(t:Tale)(k:Nat)(N l:List St)(src:List (List Nat)):Prop where
 len:src.length=l.length
 mem:∀q p:Nat,(∃r,src[q]?=some r/\p∈r)↔(p < k/\∃sp sq,l[p]?=some sp/\l[q]?=some sq/\sq∈after t sp)\/(p=k/\∃sq,l[q]?=some sq/\sq∈N)
 cl:∀(p:Nat)(sp y:St),p < k->l[p]?=some sp->y∈after t sp->y∈l
 nN:∀y∈N,y∈l
 nd:l.Nodup
 kl:k<=l.length
 rd:∀(q:Nat)(r:List Nat),src[q]?=some r->r.Nodup
theorem Zbs.ZrV{t:Tale}{k:Nat}{N l:List St}{src:List (List Nat)}(V:Zbs t k N l src){q:Nat}{r:List Nat}(h:src[q]?=some r):r.length<=k+1:=by
 refine ZlY (V.rd q r h) fun p hp=>?_;rcases(V.mem q p).mp ⟨r,h,hp⟩ with⟨z,_⟩|⟨z,_⟩<;>omega
theorem append_at{α:Type}{l:List α}{x y:α}{q:Nat}(h:(l++[x])[q]?=some y):(q < l.length/\l[q]?=some y)\/(q=l.length/\y=x):=by
 by_cases z:q < l.length
 ·rw[List.getElem?_append_left z] at h;exact .inl ⟨z,h⟩
 ·rw[List.getElem?_append_right (by omega)] at h;have hj:q - l.length=0:=by
   have:=(List.getElem?_eq_some_iff.mp h).1;simp at this;omega
  rw[hj] at h;have:x=y:=by simpa using h
  exact .inr ⟨by omega,this.symm⟩
theorem ZeX{α:Type}{l:List α}{y:α}(x:α){q:Nat}(h:l[q]?=some y):(l++[x])[q]?=some y:=by
 rw[List.getElem?_append_left (List.getElem?_eq_some_iff.mp h).1];exact h
theorem Zbs.enter{t:Tale}{k:Nat}{N l:List St}{src:List (List Nat)}(V:Zbs t k N l src){x:St}(hx:x∉l):Zbs t k N (l++[x]) (src++[[]]):=by
 have old:∀{p:Nat}{sp:St},p < k->(l++[x])[p]?=some sp->l[p]?=some sp:=fun{p sp} hp h=>by
  rcases append_at h with⟨_,h⟩|⟨z,_⟩
  ·exact h
  ·have:=V.kl;omega
 refine⟨by rw[List.length_append,List.length_append,V.len];rfl,fun q p=>?_,fun p sp y hp h hy=>?_,fun y hy=>List.mem_append_left _ (V.nN y hy),?_,by rw[List.length_append];have:=V.kl;omega,fun q r h=>?_⟩
 ·constructor
  ·rintro⟨r,hr,hp⟩;rcases append_at hr with⟨_,hr⟩|⟨_,z⟩
   ·rcases(V.mem q p).mp ⟨r,hr,hp⟩ with⟨h1,sp,sq,h2,h3,h4⟩|⟨h1,sq,h2,h3⟩
    ·exact .inl ⟨h1,sp,sq,ZeX x h2,ZeX x h3,h4⟩
    ·exact .inr ⟨h1,sq,ZeX x h2,h3⟩
   ·rw[z] at hp;cases hp
  ·rintro(⟨h1,sp,sq,h2,h3,h4⟩|⟨h1,sq,h2,h3⟩)
   ·have h2':=old h1 h2;rcases append_at h3 with⟨_,h3⟩|⟨_,z⟩
    ·obtain⟨r,hr,hp⟩:=(V.mem q p).mpr (.inl ⟨h1,sp,sq,h2',h3,h4⟩);exact⟨r,ZeX _ hr,hp⟩
    ·rw[z] at h4;exact absurd (V.cl p sp x h1 h2' h4) hx
   ·rcases append_at h2 with⟨_,h2⟩|⟨_,z⟩
    ·obtain⟨r,hr,hp⟩:=(V.mem q p).mpr (.inr ⟨h1,sq,h2,h3⟩);exact⟨r,ZeX _ hr,hp⟩
    ·rw[z] at h3;exact absurd (V.nN x h3) hx
 ·exact List.mem_append_left _ (V.cl p sp y hp (old hp h) hy)
 ·refine List.nodup_append.mpr ⟨V.nd,by simp,fun a ha b hb=>?_⟩;have:b=x:=by simpa using hb
  rw[this];exact fun z=>hx (z▸ha)
 ·rcases append_at h with⟨_,h⟩|⟨_,z⟩
  ·exact V.rd q r h
  ·rw[z];simp
theorem Zbs.put{t:Tale}{k:Nat}{N l:List St}{src:List (List Nat)}(V:Zbs t k N l src){x:St}{q0:Nat}{r0:List Nat}(hx:l[q0]?=some x)(hr0:src[q0]?=some r0)(hN:x∉N):Zbs t k (N++[x]) l (src.set q0 (r0++[k])):=by
 have hl:q0 < src.length:=(List.getElem?_eq_some_iff.mp hr0).1;have uq:∀{q:Nat},l[q]?=some x->q=q0:=fun{q} h=>by
  obtain⟨h1,e1⟩:=List.getElem?_eq_some_iff.mp h;obtain⟨h2,e2⟩:=List.getElem?_eq_some_iff.mp hx;exact ZcT V.nd (e1.trans e2.symm)
 have kr:k∉r0:=fun z=>by
  rcases(V.mem q0 k).mp ⟨r0,hr0,z⟩ with⟨z,_⟩|⟨_,sq,h2,h3⟩
  ·omega
  ·rw[hx] at h2;cases h2;exact hN h3
 refine⟨by rw[List.length_set,V.len],fun q p=>?_,V.cl,fun y hy=>?_,V.nd,V.kl,fun q r h=>?_⟩
 ·by_cases hq:q=q0
  ·subst hq;rw[List.getElem?_set_self hl];constructor
   ·rintro⟨r,hr,hp⟩;cases hr;rcases List.mem_append.mp hp with hp|hp
    ·rcases(V.mem q p).mp ⟨r0,hr0,hp⟩ with h|⟨h1,sq,h2,h3⟩
     ·exact .inl h
     ·exact .inr ⟨h1,sq,h2,List.mem_append_left _ h3⟩
    ·have:p=k:=by simpa using hp
     exact .inr ⟨this,x,hx,by simp⟩
   ·rintro(h|⟨h1,sq,h2,h3⟩)
    ·obtain⟨r,hr,hp⟩:=(V.mem q p).mpr (.inl h);rw[hr0] at hr;cases hr;exact⟨_,rfl,List.mem_append_left _ hp⟩
    ·exact⟨_,rfl,List.mem_append_right _ (by simp[h1])⟩
  ·rw[List.getElem?_set_ne (Ne.symm hq),V.mem];constructor
   ·rintro(h|⟨h1,sq,h2,h3⟩)
    ·exact .inl h
    ·exact .inr ⟨h1,sq,h2,List.mem_append_left _ h3⟩
   ·rintro(h|⟨h1,sq,h2,h3⟩)
    ·exact .inl h
    ·rcases List.mem_append.mp h3 with h3|h3
     ·exact .inr ⟨h1,sq,h2,h3⟩
     ·have:sq=x:=by simpa using h3
      rw[this] at h2;exact absurd (uq h2) hq
 ·rcases List.mem_append.mp hy with hy|hy
  ·exact V.nN y hy
  ·have:y=x:=by simpa using hy
   rw[this];exact List.mem_of_getElem? hx
 ·by_cases hq:q=q0
  ·subst hq;rw[List.getElem?_set_self hl] at h;cases h;refine List.nodup_append.mpr ⟨V.rd q r0 hr0,by simp,fun a ha b hb=>?_⟩;have:b=k:=by simpa using hb
   rw[this];exact fun z=>kr (z▸ha)
  ·rw[List.getElem?_set_ne (Ne.symm hq)] at h;exact V.rd q r h
abbrev ZcW(t:Tale)(k:Nat)(l:List St)(src:List (List Nat)):Prop:=Zbs t k [] l src
theorem Zbs.next{t:Tale}{k:Nat}{s:St}{l:List St}{src:List (List Nat)}{N:List St}(V:Zbs t k N l src)(hs:l[k]?=some s)(hN:∀y,y∈N↔y∈after t s):ZcW t (k+1) l src:=by
 refine⟨V.len,fun q p=>?_,fun p sp y hp h hy=>?_,fun y hy=>(by cases hy),V.nd,(List.getElem?_eq_some_iff.mp hs).1,V.rd⟩
 ·rw[V.mem];constructor
  ·rintro(⟨h1,h⟩|⟨h1,sq,h2,h3⟩)
   ·exact .inl ⟨by omega,h⟩
   ·subst h1;exact .inl ⟨by omega,s,sq,hs,h2,(hN sq).mp h3⟩
  ·rintro(⟨h1,sp,sq,h2,h3,h4⟩|⟨_,sq,_,h3⟩)
   ·by_cases z:p=k
    ·subst z;rw[hs] at h2;cases h2;exact .inr ⟨rfl,sq,h3,(hN sq).mpr h4⟩
    ·exact .inl ⟨by omega,sp,sq,h2,h3,h4⟩
   ·cases h3
 ·by_cases z:p=k
  ·subst z;rw[hs] at h;cases h;exact V.nN y ((hN y).mpr hy)
  ·exact V.cl p sp y (by omega) h hy
theorem ZrW(t:Tale):ZcW t 0 [first t] [[]]:=by
 refine⟨rfl,fun q p=>?_,fun _ _ _ h=>absurd h (Nat.not_lt_zero _),fun y hy=>(by cases hy),by simp,Nat.zero_le _,fun q r h=>?_⟩
 ·constructor
  ·rintro⟨r,hr,hp⟩;cases q with
   |zero =>
    have:r=[]:=by simpa using hr.symm
    rw[this] at hp;cases hp
   |succ q=>simp at hr
  ·rintro(⟨h,_⟩|⟨_,sq,_,h⟩)
   ·exact absurd h (Nat.not_lt_zero _)
   ·cases h
 ·cases q with
  |zero =>
   have:r=[]:=by simpa using h.symm
   rw[this];simp
  |succ q=>simp at h
theorem ZcW.ZrX{t:Tale}{k:Nat}{l:List St}{src:List (List Nat)}(V:ZcW t k l src)(h:l.length<=k):ZeW t l src:=by
 refine⟨V.len,fun q p=>?_⟩;rw[V.mem];constructor
 ·rintro(⟨_,z⟩|⟨_,sq,_,z⟩)
  ·exact z
  ·cases z
 ·rintro⟨sp,sq,h1,h2,h3⟩;exact .inl ⟨by have:=(List.getElem?_eq_some_iff.mp h1).1;omega,sp,sq,h1,h2,h3⟩
def cands(t:Tale)(l:List St)(s:St)(n:Nat):List Nat:=((ZI t s t.whens.length).filter fun y=>Kgf2.far t l y.1==some (n - 1)).map Prod.snd
theorem ZhV{t:Tale}{l:List St}{s:St}{n k:Nat}:k∈cands t l s n↔∃x,(x,k)∈ZI t s t.whens.length/\Kgf2.far t l x=some (n - 1):=by
 unfold cands;rw[List.mem_map];constructor
 ·rintro⟨⟨x,k'⟩,hy,e⟩;obtain⟨h1,h2⟩:=List.mem_filter.mp hy;have e':k'=k:=e;subst e';exact⟨x,h1,by simpa using h2⟩
 ·rintro⟨x,h1,h2⟩;exact⟨(x,k),List.mem_filter.mpr ⟨h1,by simpa using h2⟩,rfl⟩
theorem Zl0{t:Tale}{l:List St}(cl:Za6 t l){s:St}{n:Nat}(hs:s∈l)(hf:Kgf2.far t l s=some (n+1)):status t s=0/\∃x,x∈after t s/\Kgf2.far t l x=some n:=by
 obtain⟨h1,h2⟩:=(ZfP cl hs).yes _ hf;rw[Zdv,Bool.or_eq_true,List.any_eq_true] at h1;rcases h1 with h1|⟨x,hx,hw⟩
 ·have h0:=h2 0 (by omega);have:wonIn t 0 s=true:=h1;rw[h0] at this;cases this
 ·have hst:status t s=0:=by
   cases e:status t s with
   |zero=>rfl
   |succ m =>
    rw[ZlX (by rw[e];omega)] at hx;cases hx
  refine⟨hst,x,hx,?_⟩;have fx:=ZfP cl (cl s x hs hx);cases e:Kgf2.far t l x with
  |none =>
   rw[fx.no e n] at hw;cases hw
  |some d =>
   obtain⟨g1,g2⟩:=fx.yes d e;congr 1;rcases Nat.lt_trichotomy d n with z|z|z
   ·have:wonIn t (d+1) s=true:=by
     rw[Zdv,Bool.or_eq_true,List.any_eq_true];exact .inr ⟨x,hx,g1⟩
    rw[h2 (d+1) (by omega)] at this;cases this
   ·exact z
   ·rw[g2 n z] at hw;cases hw
theorem ZhW{t:Tale}{s x:St}(h:x∈after t s):∃k,k < t.whens.length/\leads t s k=some x:=by
 unfold after at h;obtain⟨k,hk,e⟩:=List.mem_filterMap.mp h;unfold numbers at hk;exact⟨k,List.mem_range.mp hk,e⟩
theorem ZrY{t:Tale}{l:List St}(cl:Za6 t l){s:St}{n:Nat}(hs:s∈l)(hf:Kgf2.far t l s=some (n+1)):0 < (cands t l s (n+1)).length:=by
 obtain⟨hst,x,hx,hfx⟩:=Zl0 cl hs hf;obtain⟨j,hj,e⟩:=ZhW hx;obtain⟨k,hk⟩:=ZeU hst t.whens.length j x hj e;exact List.length_pos_of_mem (ZhV.mpr ⟨x,hk,hfx⟩)
theorem ZrZ{t:Tale}{l:List St}{s:St}{n m:Nat}(hst:status t s=0)(hm:m∈cands t l s n)(hle:∀y∈cands t l s n,m<=y):best t l s n=some m:=by
 obtain⟨x,hx,hfx⟩:=ZhV.mp hm;obtain⟨h1,h2,h3⟩:=ZeV hst _ x m hx;unfold best numbers;rw[List.find?_range_eq_some];refine⟨by rw[h2];simpa using hfx,List.mem_range.mpr h1,fun j hj=>?_⟩;cases e:leads t s j with
 |none=>rfl
 |some y =>
  by_cases hy:Kgf2.far t l y=some (n - 1)
  ·obtain⟨k,hk⟩:=ZeU hst t.whens.length j y (by omega) e;have:=hle k (ZhV.mpr ⟨y,hk,hy⟩);obtain⟨_,_,h6⟩:=ZeV hst _ y k hk;exact absurd e (h6 j (by omega))
  ·simpa using hy
def ZbJ(t:Tale)(l:List St):List Nat:=(List.range l.length).filter fun p=>decide (status t (l.getD p [])=0/\Kgf2.far t l (l.getD p [])=none)
theorem Zl1(l:List St):(List.range l.length).map (fun p=>l.getD p [])=l:=by
 refine List.ext_getElem? fun i=>?_;rw[List.getElem?_map];by_cases h:i < l.length
 ·rw[List.getElem?_range h,List.getElem?_eq_getElem h];show some (l.getD i [])=_;rw[getD_at (List.getElem?_eq_getElem h)]
 ·rw[List.getElem?_eq_none_iff.mpr (by rw[List.length_range];omega),List.getElem?_eq_none_iff.mpr (by omega)];rfl
theorem Zl2{t:Tale}{l:List St}(cl:Za6 t l):stuck t l=(ZbJ t l).map fun p=>l.getD p []:=by
 rw[ZrH cl];conv=>lhs;rw[←Zl1 l]
 rw[List.filter_map];congr 1;unfold ZbJ;congr 1;funext p;show decide (status t (l.getD p [])=0/\Kgf2.far t ((List.range l.length).map fun p=>l.getD p []) (l.getD p [])=none)=_;rw[Zl1]
theorem ZeY{s:St}(h:s.length<=24):flat s=s++List.replicate (24 - s.length) 0:=by
 unfold flat;refine List.ext_getElem? fun i=>?_;rw[List.getElem?_map];by_cases h1:i < s.length
 ·rw[List.getElem?_range (by omega),List.getElem?_append_left h1];show some (s.getD i 0)=_;rw[List.getElem?_eq_getElem h1,getD_at (List.getElem?_eq_getElem h1)]
 ·rw[List.getElem?_append_right (by omega),List.getElem?_replicate];by_cases h2:i < 24
  ·rw[List.getElem?_range h2,if_pos (by omega)];show some (s.getD i 0)=_;rw[List.getD_eq_getElem?_getD,List.getElem?_eq_none_iff.mpr (by omega)];rfl
  ·rw[List.getElem?_eq_none_iff.mpr (by rw[List.length_range];omega),if_neg (by omega)];rfl
def Zeb(sz ns:List Nat):Prop:=∀(v c:Nat),ns[v]?=some c->c < (if v < sz.length then sz.getD v 0 else 1)
theorem Zl3{sz ns:List Nat}(hl:ns.length=24)(hz:sz.length<=24)(h:Zeb sz ns):Ok sz (ns.take sz.length)/\flat (ns.take sz.length)=ns:=by
 have el:(ns.take sz.length).length=sz.length:=by rw[List.length_take];omega
 refine⟨⟨el,fun v c k hc hk=>?_⟩,?_⟩
 ·have hv:=(List.getElem?_eq_some_iff.mp hk).1;rw[List.getElem?_take,if_pos hv] at hc;have:=h v c hc;rw[if_pos hv,getD_at hk] at this;exact this
 ·rw[ZeY (by omega),el];conv=>rhs;rw[←List.take_append_drop sz.length ns]
  congr 1;refine List.ext_getElem? fun i=>?_;rw[List.getElem?_replicate,List.getElem?_drop];split
  ·rename_i hi;have hlt:sz.length+i < ns.length:=by omega
   have e:ns[sz.length+i]?=some ns[sz.length+i]:=List.getElem?_eq_getElem hlt;have:=h _ _ e;rw[if_neg (by omega)] at this;rw[e];congr 1;omega
  ·rw[List.getElem?_eq_none_iff.mpr (by omega)]
theorem Zr0{sz:List Nat}{y:St}(hz:sz.length<=24)(h:Ok sz y):Zeb sz (flat y):=by
 intro v c hc;rw[ZeY (by rw[h.len];exact hz)] at hc;by_cases hv:v < sz.length
 ·rw[List.getElem?_append_left (by rw[h.len];exact hv)] at hc;have hk:sz[v]?=some sz[v]:=List.getElem?_eq_getElem hv;rw[if_pos hv,getD_at hk];exact h.lt v c _ hc hk
 ·rw[List.getElem?_append_right (by rw[h.len];omega),List.getElem?_replicate] at hc;rw[if_neg hv];split at hc
  ·cases hc;omega
  ·cases hc
theorem Zr1{sz:List Nat}{y:St}(hz:sz.length<=24)(h:Ok sz y):(flat y).take sz.length=y:=by
 rw[ZeY (by rw[h.len];exact hz),List.take_append_of_le_length (by rw[h.len];omega),←h.len,List.take_length]
theorem Zr2(sz ns:List Nat):pk sz (ns.take sz.length)=pk sz ns:=by
 unfold pk;congr 1;refine List.map_congr_left fun v hv=>?_;rw[List.mem_range] at hv;rw[List.getD_eq_getElem?_getD,List.getD_eq_getElem?_getD,List.getElem?_take,if_pos hv]
theorem Zr3{sz ns:List Nat}{l:List St}(hl:ns.length=24)(hz:sz.length<=24)(hok:∀y∈l,Ok sz y):(Zeb sz ns->(l.find? fun y=>flat y==ns)=if ns.take sz.length∈l then some (ns.take sz.length) else none)/\(¬Zeb sz ns->(l.find? fun y=>flat y==ns)=none):=by
 have one:∀y∈l,flat y=ns->y=ns.take sz.length:=fun y hy e=>by rw[←e,Zr1 hz (hok y hy)]
 constructor
 ·intro h;obtain⟨h1,h2⟩:=Zl3 hl hz h;split
  ·rename_i hm;cases e:l.find? (fun y=>flat y==ns) with
   |none=>exact absurd (List.find?_eq_none.mp e _ hm) (by rw[h2];simp)
   |some y =>
    have:=List.find?_some e;rw[one y (List.mem_of_find?_eq_some e) (by simpa using this)]
  ·rename_i hm;refine List.find?_eq_none.mpr fun y hy e=>hm ?_;rw[←one y hy (by simpa using e)];exact hy
 ·intro h;refine List.find?_eq_none.mpr fun y hy e=>h ?_;have e':flat y=ns:=by simpa using e
  rw[←e'];exact Zr0 hz (hok y hy)
theorem Zl4{sz:List Nat}{t:Tale}(hf:∀x∈t.whens,Fits sz x.change){s x:St}{k:Nat}(h:Ok sz s)(e:leads t s k=some x):Ok sz x:=by
 unfold leads at e;split at e
 ·cases hw:t.whens[k]? with
  |none=>rw[hw] at e;cases e
  |some y =>
   rw[hw] at e;cases e;exact ZfT h (hf y (List.mem_of_getElem? hw))
 ·cases e
theorem Zl5{sz:List Nat}:∀{ss l:List St},(∀y∈l,Ok sz y)->(∀y∈ss,Ok sz y)->∀y∈ss.foldl add l,Ok sz y:=fun h1 h2 y hy=>(Zdu.mp hy).elim (h1 y) (h2 y)
theorem Zec{sz:List Nat}{t:Tale}(hf:∀x∈t.whens,Fits sz x.change){s:St}(h:Ok sz s):∀n,∀y∈ZI t s n,Ok sz y.1
 |0,y,hy=>by cases hy
 |n+1,y,hy=>by
  cases hd:does t s n with
  |false=>rw[Zdw hd] at hy;exact Zec hf h n y hy
  |true =>
   obtain⟨x,hx⟩:=Zea hd;rw[ZcV hx hd] at hy;unfold ZbI at hy;split at hy
   ·exact Zec hf h n y hy
   ·rcases List.mem_append.mp hy with hy|hy
    ·exact Zec hf h n y hy
    ·have:y=(changed s x.change,n):=by simpa using hy
     rw[this];exact ZfT h (hf x (List.mem_of_getElem? hx))
end Tl
namespace Tl
open Kgf1 Kgf2
abbrev Zg(t:Tale):List Nat:=t.vars.map fun v=>v.values.length
structure Zch(t:Tale):Prop where
 vn:∀x∈t.vars,2<=x.values.length/\x.values.length<=16
 wc:∀x∈t.whens,Fits (Zg t) x.cond/\Fits (Zg t) x.change/\okChange x.change=true/\x.text.length<=255/\x.words.length<=40/\x.change.length<=16
 sc:∀x∈t.shows,Fits (Zg t) x.cond/\x.text.length<=255
 oc:∀c∈t.wons,Fits (Zg t) c
 lc:∀c∈t.losts,Fits (Zg t) c
def short(ts:List Tok):Prop:=∀b,Tok.str b∈ts->b.length<=255
theorem Zf0:∀(m:Nat)(b:Bytes)(l:List Tok),lex m b=some l->short l
 |0,_,_,h=>by cases h
 |m+1,[],l,h=>by
  cases h;intro b hb;cases hb
 |m+1,c::r,l,h=>by
  unfold lex at h;have cons:∀{t:Tok}{q:Bytes},(∀b,t=.str b->b.length<=255)->(lex m q).map (fun l=>t::l)=some l->short l:=fun{t q} ht e=>by
   obtain⟨l',e1,rfl⟩:=Option.map_eq_some_iff.mp e;intro b hb;rcases List.mem_cons.mp hb with z|z
   ·exact ht b z.symm
   ·exact Zf0 m q l' e1 b z
  split at h
  ·exact Zf0 m r l h
  ·split at h
   ·exact cons (fun b z=>by cases z) h
   ·split at h
    ·exact cons (fun b z=>by cases z) h
    ·split at h
     ·dsimp only at h;split at h
      ·cases h
      ·rename_i hz;refine cons (fun b z=>?_) h;cases z;have:=fun w=>hz (.inl w);omega
     ·split at h
      ·dsimp only at h;split at h
       ·cases h
       ·exact cons (fun b z=>by cases z) h
      ·cases h
theorem Zr4{a b:List Tok}(h:short b)(s:a <:+ b):short a:=fun x hx=>h x (s.subset hx)
theorem ZhX:∀(ts l:List Tok)(ss:List (List Tok)),sentences ts l=some ss->∀s∈ss,∀k∈s,k∈ts\/k∈l
 |[],[],ss,h,s,hs=>by
  cases h;cases hs
 |[],_::_,ss,h,_,_=>by cases h
 |t::r,l,ss,h,s,hs=>by
  intro k hk;by_cases ht:t=.semi
  ·subst ht;have h':(sentences r []).map (fun s=>l::s)=some ss:=h;obtain⟨ss',e,rfl⟩:=Option.map_eq_some_iff.mp h';rcases List.mem_cons.mp hs with z|z
   ·rw[z] at hk;exact .inr hk
   ·rcases ZhX r [] ss' e s z k hk with w|w
    ·exact .inl (List.mem_cons_of_mem _ w)
    ·cases w
  ·have h':sentences r (l++[t])=some ss:=by
    cases t with
    |semi=>exact absurd rfl ht
    |_=>exact h
   rcases ZhX r (l++[t]) ss h' s hs k hk with w|w
   ·exact .inl (List.mem_cons_of_mem _ w)
   ·rcases List.mem_append.mp w with w|w
    ·exact .inr w
    ·have:k=t:=by simpa using w
     exact .inl (by rw[this];exact List.mem_cons_self)
theorem Zr5{vs:List Var}{n h v:Bytes}{p:Part}(e:part vs n h v=some p):∃k:Nat,(vs.map fun v=>v.values.length)[p.var]?=some k/\p.value < k:=by
 unfold part at e;cases e1:vs.findIdx? (fun x=>x.name==n) with
 |none=>rw[e1] at e;cases e
 |some i =>
  rw[e1] at e;cases e2:vs[i]? with
  |none =>
   have e':(vs[i]? >>= fun x=>_)=some p:=e;rw[e2] at e';cases e'
  |some x =>
   have e':(vs[i]? >>= fun x=>(x.values.findIdx? (fun y=>y==v)) >>= fun j=>if h=ascii "is" then some (⟨i,j,true⟩:Part) else if h=ascii "not" then some ⟨i,j,false⟩ else none)=some p:=e;rw[e2] at e';cases e3:x.values.findIdx? (fun y=>y==v) with
   |none =>
    have e'':((x.values.findIdx? (fun y=>y==v)) >>= fun j=>if h=ascii "is" then some (⟨i,j,true⟩:Part) else if h=ascii "not" then some ⟨i,j,false⟩ else none)=some p:=e';rw[e3] at e'';cases e''
   |some j =>
    have e'':((x.values.findIdx? (fun y=>y==v)) >>= fun j=>if h=ascii "is" then some (⟨i,j,true⟩:Part) else if h=ascii "not" then some ⟨i,j,false⟩ else none)=some p:=e';rw[e3] at e'';have e4:(if h=ascii "is" then some (⟨i,j,true⟩:Part) else if h=ascii "not" then some ⟨i,j,false⟩ else none)=some p:=e'';have hj:j < x.values.length:=(List.findIdx?_eq_some_iff_getElem.mp e3).1;have hi:(vs.map fun v=>v.values.length)[i]?=some x.values.length:=by rw[List.getElem?_map,e2];rfl
    split at e4
    ·cases e4;exact⟨_,hi,hj⟩
    ·split at e4
     ·cases e4;exact⟨_,hi,hj⟩
     ·cases e4
theorem Zl6(vs:List Var):∀(m:Nat)(ts:List Tok)(c:Cond)(r:List Tok),parts vs m ts=some (c,r)->Fits (vs.map fun v=>v.values.length) c
 |0,_,_,_,h=>by cases h
 |m+1,ts,c,r,h=>by
  rw[ZfK] at h;obtain⟨x,e1,e2⟩:=Option.bind_eq_some_iff.mp h;obtain⟨p,q⟩:=x;have hp:∃k:Nat,(vs.map fun v=>v.values.length)[p.var]?=some k/\p.value < k:=by
   unfold Zbb at e1;split at e1
   ·obtain⟨p',e3,e4⟩:=Option.map_eq_some_iff.mp e1;cases e4;exact Zr5 e3
   ·cases e1
  unfold andThen at e2;dsimp only at e2;split at e2
  ·split at e2
   ·obtain⟨y,e3,e4⟩:=Option.map_eq_some_iff.mp e2;cases e4;intro p' hp';rcases List.mem_append.mp hp' with z|z
    ·have:p'=p:=by simpa using z
     rw[this];exact hp
    ·exact Zl6 vs m _ y.1 y.2 e3 p' z
   ·cases e2;intro p' hp';have:p'=p:=by simpa using hp'
    rw[this];exact hp
  ·cases e2;intro p' hp';have:p'=p:=by simpa using hp'
   rw[this];exact hp
theorem ZhY{vs:List Var}{ts r:List Tok}{c:Cond}(h:cond vs ts=some (c,r)):Fits (vs.map fun v=>v.values.length) c/\c.length<=16:=by
 rw[Zd4] at h;obtain⟨x,e,h⟩:=Option.bind_eq_some_iff.mp h;split at h
 ·rename_i hx;cases h;exact⟨Zl6 vs _ _ _ _ e,hx⟩
 ·cases h
theorem Zf1{vs:List Var}{w:String}{ts r:List Tok}{c:Cond}(h:maybe vs w ts=some (c,r)):Fits (vs.map fun v=>v.values.length) c/\c.length<=16:=by
 unfold maybe at h;split at h
 ·split at h
  ·exact ZhY h
  ·cases h;exact⟨fun p hp=>(by cases hp),Nat.zero_le _⟩
 ·cases h;exact⟨fun p hp=>(by cases hp),Nat.zero_le _⟩
theorem Zr6{b:Bytes}(h:okWords b=true):b.length<=40:=by
 unfold okWords at h;simp only[Bool.and_eq_true,decide_eq_true_eq] at h;omega
theorem Zr7{t t':Tale}{s:List Tok}(h:sentence t s=some t')(hf:Zch t)(hs:short s):Zch t':=by
 match s with
 |.name k::r =>
  by_cases k0:k=ascii "var"
  ·subst k0;rw[ZhC] at h;unfold Zdt at h;split at h
   ·rename_i n v;obtain⟨l,e,h⟩:=Option.bind_eq_some_iff.mp h;split at h
    ·rename_i hok;rw[Bool.and_eq_true] at hok;obtain⟨h1,h2⟩:=hok;cases h;unfold ZaJ at h1;simp only[Bool.and_eq_true,List.isEmpty_iff] at h1;obtain⟨⟨⟨w1,w2⟩,w3⟩,w4⟩:=h1;unfold ZbF at h2;simp only[Bool.and_eq_true,decide_eq_true_eq] at h2;refine⟨fun x hx=>?_,?_,?_,?_,?_⟩
     ·rcases List.mem_append.mp hx with z|z
      ·exact hf.vn x z
      ·have:x=⟨n,l⟩:=by simpa using z
       rw[this];exact⟨h2.1.1.2,h2.1.2⟩
     ·intro x hx;have hx':x∈t.whens:=hx;rw[w1] at hx';cases hx'
     ·intro x hx;have hx':x∈t.shows:=hx;rw[w2] at hx';cases hx'
     ·intro x hx;have hx':x∈t.wons:=hx;rw[w3] at hx';cases hx'
     ·intro x hx;have hx':x∈t.losts:=hx;rw[w4] at hx';cases hx'
    ·cases h
   ·cases h
  ·by_cases k1:k=ascii "when"
   ·subst k1;rw[Zlh] at h;unfold Zhz at h;split at h
    ·rename_i w q;split at h
     ·rename_i hw;obtain⟨c,e1,h⟩:=Option.bind_eq_some_iff.mp h;obtain⟨d,e2,h⟩:=Option.bind_eq_some_iff.mp h;split at h
      ·rename_i hd;unfold Zds at h;split at h
       ·rename_i y x e3;split at h
        ·cases h;have suf:d.2 <:+ .name (ascii "when")::.str w::q:=((ZcP (c:=d.1) (r:=d.2) e2).trans (ZcP (c:=c.1) (r:=c.2) e1)).trans ⟨[_,_],rfl⟩;have hx:x.length<=255:=(Zr4 hs suf) x (by rw[e3];simp);refine⟨hf.vn,fun z hz=>?_,hf.sc,hf.oc,hf.lc⟩;rcases List.mem_append.mp hz with hz|hz
         ·exact hf.wc z hz
         ·have:z=⟨w,c.1,d.1,x⟩:=by simpa using hz
          rw[this];exact⟨(Zf1 (c:=c.1) (r:=c.2) e1).1,(Zf1 (c:=d.1) (r:=d.2) e2).1,hd,hx,Zr6 hw,(Zf1 (c:=d.1) (r:=d.2) e2).2⟩
        ·cases h
       ·cases h
      ·cases h
     ·cases h
    ·cases h
   ·by_cases k2:k=ascii "show"
    ·subst k2;rw[Zli] at h;unfold ZhA at h;split at h
     ·rename_i x q;obtain⟨c,e1,h⟩:=Option.bind_eq_some_iff.mp h;split at h
      ·cases h;have hx:x.length<=255:=hs x (by simp);refine⟨hf.vn,hf.wc,fun z hz=>?_,hf.oc,hf.lc⟩;rcases List.mem_append.mp hz with hz|hz
       ·exact hf.sc z hz
       ·have:z=⟨x,c.1⟩:=by simpa using hz
        rw[this];exact⟨(Zf1 (c:=c.1) (r:=c.2) e1).1,hx⟩
      ·cases h
     ·cases h
    ·by_cases k3:k=ascii "won"
     ·subst k3;rw[Zlj] at h;unfold ZeP at h;split at h
      ·split at h
       ·obtain⟨c,e1,h⟩:=Option.bind_eq_some_iff.mp h;split at h
        ·cases h;refine⟨hf.vn,hf.wc,hf.sc,fun z hz=>?_,hf.lc⟩;rcases List.mem_append.mp hz with hz|hz
         ·exact hf.oc z hz
         ·have:z=c.1:=by simpa using hz
          rw[this];exact(ZhY (c:=c.1) (r:=c.2) e1).1
        ·cases h
       ·cases h
      ·cases h
     ·by_cases k4:k=ascii "lost"
      ·subst k4;rw[Zlk] at h;unfold ZeP at h;split at h
       ·split at h
        ·obtain⟨c,e1,h⟩:=Option.bind_eq_some_iff.mp h;split at h
         ·cases h;refine⟨hf.vn,hf.wc,hf.sc,hf.oc,fun z hz=>?_⟩;rcases List.mem_append.mp hz with hz|hz
          ·exact hf.lc z hz
          ·have:z=c.1:=by simpa using hz
           rw[this];exact(ZhY (c:=c.1) (r:=c.2) e1).1
         ·cases h
        ·cases h
       ·cases h
      ·unfold sentence at h;simp only[k0,k1,k2,k3,k4,if_false] at h;cases h
 |[]=>cases h
 |.eq::_=>cases h
 |.semi::_=>cases h
 |.str _::_=>cases h
theorem Zl7:∀(ss:List (List Tok))(t t':Tale),(∀s∈ss,short s)->Zch t->ss.foldlM sentence t=some t'->Zch t'
 |[],t,t',_,hf,h=>by
  cases h;exact hf
 |s::ss,t,t',hs,hf,h=>by
  rw[List.foldlM_cons] at h;obtain⟨t1,e1,e2⟩:=Option.bind_eq_some_iff.mp h;exact Zl7 ss t1 t' (fun x hx=>hs x (List.mem_cons_of_mem _ hx)) (Zr7 e1 hf (hs s List.mem_cons_self)) e2
theorem Zr8:Zch {}:=⟨fun x hx=>(by cases hx),fun x hx=>(by cases hx),fun x hx=>(by cases hx),fun x hx=>(by cases hx),fun x hx=>(by cases hx)⟩
theorem Zl8{b:Bytes}{t:Tale}(h:Kgf1.read b=some t):Zch t/\okTale t=true:=by
 unfold Kgf1.read at h;obtain⟨l,e1,h⟩:=Option.bind_eq_some_iff.mp h;obtain⟨ss,e2,h⟩:=Option.bind_eq_some_iff.mp h;obtain⟨t',e3,h⟩:=Option.bind_eq_some_iff.mp h;split at h
 ·rename_i hok;cases h;refine⟨Zl7 ss {} _ (fun s hs=>?_) Zr8 e3,hok⟩;have hl:=Zf0 _ _ _ e1;intro x hx;rcases ZhX l [] ss e2 s hs _ hx with z|z
  ·exact hl x z
  ·cases z
 ·cases h
theorem ZhZ{t:Tale}(h:Zch t):Ok (Zg t) (first t):=by
 refine⟨by unfold first;rw[List.length_map,List.length_map],fun v c k hc hk=>?_⟩;unfold first at hc;rw[List.getElem?_map] at hc hk;cases e:t.vars[v]? with
 |none=>rw[e] at hk;cases hk
 |some x =>
  rw[e] at hc hk;cases hc;cases hk;have:=(h.vn x (List.mem_of_getElem? e)).1;show 0 < x.values.length;omega
theorem Zr9{c:Cond}(h:okChange c=true):(c.map Part.var).Nodup:=by
 unfold okChange at h;simp only[Bool.and_eq_true,decide_eq_true_eq] at h;exact h.2
theorem Zsa{t:Tale}(h:Zch t):∀y∈come t,Ok (Zg t) y:=by
 have aft:∀s,Ok (Zg t) s->∀y∈after t s,Ok (Zg t) y:=fun s hs y hy=>by
  obtain⟨k,_,e⟩:=ZhW hy;exact Zl4 (fun x hx=>(h.wc x hx).2.1) hs e
 have:∀(m k:Nat)(l:List St),(∀y∈l,Ok (Zg t) y)->∀y∈wander t m k l,Ok (Zg t) y:=by
  intro m;induction m with
  |zero=>exact fun _ _ hl=>hl
  |succ m ih =>
   intro k l hl;cases e:l[k]? with
   |none =>
    unfold wander;rw[e];exact hl
   |some s =>
    rw[ZhH t m k e];exact ih _ _ (Zl5 hl (aft s (hl s (List.mem_of_getElem? e))))
 exact this _ _ _ fun y hy=>by
  have:y=first t:=by simpa using hy
  rw[this];exact ZhZ h
end Tl
namespace Tl
theorem Zsb(c:List (List Int)):PyKgf.whole c=c:=by
 rcases c with _|⟨_|⟨x,t⟩,u⟩
 ·rfl
 ·rfl
 by_cases h:x=0\/x=1\/x=2\/x=3\/x=4\/x=10\/x=11\/x=12\/x=13
 ·rcases h with rfl|rfl|rfl|rfl|rfl|rfl|rfl|rfl|rfl<;>rcases t with _|⟨y,_|_⟩<;>rcases u with _|⟨r,_|_⟩<;>rfl
 ·simp only[not_or] at h;obtain⟨h0,h1,h2,h3,h4,h5,h6,h7,h8⟩:=h;delta PyKgf.whole PyKgf.whole.match_1;delta PyKgf.whole._sparseCasesOn_1;dsimp only;refine(dif_neg h0).trans ?_;refine(dif_neg h1).trans ?_;refine(dif_neg h2).trans ?_;refine(dif_neg h3).trans ?_;refine(dif_neg h4).trans ?_;refine(dif_neg h5).trans ?_;refine(dif_neg h6).trans ?_;refine(dif_neg h7).trans ?_;refine(dif_neg h8).trans ?_;rfl
theorem Zsc{l x t:List Int}(h:PyFlat.row l=some (x,t)):l=(x.length:Int)::(x++t):=by
 unfold PyFlat.row at h;split at h
 ·cases h
 ·rename_i n r;split at h
  ·rename_i hn;cases h;rw[List.take_append_drop,List.length_take,Nat.min_eq_left hn.2];congr 1;omega
  ·cases h
inductive Zci:List Int->List (List Int)->List Int->Prop
 |Zh0 (p:Int) (x t:List Int) (hp:p=0\/p=2\/p=10\/p=11):Zci (p::(x.length:Int)::(x++t)) [[p],x] t
 |bare (p:Int) (t:List Int) (hp:p=1\/p=3\/p=4\/p=12):Zci (p::t) [[p]] t
 |num (k:Int) (t:List Int):Zci (13::k::t) [[13,k]] t
theorem Zsd{l t:List Int}{c:List (List Int)}(h:PyFlat.call PyKgf.shape l=some (c,t)):Zci l c t:=by
 unfold PyFlat.call at h;split at h
 ·cases h
 ·rename_i p r;split at h
  ·cases h
  ·rename_i n k hs;split at h
   ·cases h
   ·rename_i hl;have sh:(n=0/\k=1/\(p=0\/p=2\/p=10\/p=11))\/(n=0/\k=0/\(p=1\/p=3\/p=4\/p=12))\/(n=1/\k=0/\p=13):=by
     unfold PyKgf.shape at hs;repeat' split at hs
     all_goals first|cases hs|skip
     all_goals subst p
     all_goals simp
    rcases sh with⟨rfl,rfl,hp⟩|⟨rfl,rfl,hp⟩|⟨rfl,rfl,hp⟩
    ·rw[List.drop_zero] at h;split at h
     ·cases h
     ·rename_i xs t' hr;cases h;unfold PyFlat.rows at hr;split at hr
      ·cases hr
      ·rename_i x s e;have e2:PyFlat.rows 0 s=some ([],s):=rfl;rw[e2] at hr;cases hr;rw[Zsc e];exact Zci.Zh0 p _ _ hp
    ·rw[List.drop_zero] at h;have e2:PyFlat.rows 0 r=some ([],r):=rfl;rw[e2] at h;cases h;exact Zci.bare p _ hp
    ·have e2:PyFlat.rows 0 (r.drop 1)=some ([],r.drop 1):=rfl;rw[e2] at h;cases r with
     |nil=>exact absurd (show(0:Nat) < 1 by decide) hl
     |cons a r =>
      cases h;subst hp;exact Zci.num _ _
theorem Zse{f:Nat}{l:List Int}{cs:List (List (List Int))}(hl:l≠[])(h:PyFlat.calls PyKgf.shape f l=some cs):∃c t cs' f',cs=c::cs'/\Zci l c t/\PyFlat.calls PyKgf.shape f' t=some cs':=by
 cases l with
 |nil=>exact absurd rfl hl
 |cons p r =>
  cases f with
  |zero=>cases h
  |succ f =>
   unfold PyFlat.calls at h;split at h
   ·cases h
   ·rename_i c t e;split at h
    ·cases h
    ·rename_i cs' e2;cases h;exact⟨c,t,cs',f,rfl,Zsd e,e2⟩
theorem Zsf{f:Nat}:PyFlat.calls PyKgf.shape f []=some []:=by
 cases f<;>rfl
theorem Zsg{l:List Int}(h:PyKgf.answers_asked l=true):∃cs,PyFlat.calls PyKgf.shape l.length l=some cs/\cs.length<=300/\cs.all KgfNeutral.asked1=true/\KgfNeutral.may KgfNeutral.start cs=true/\PyKgf.answers l=PyFlat.told (PyFlat.played KgfNeutral.step KgfNeutral.start cs):=by
 unfold PyKgf.answers_asked at h;unfold PyKgf.answers;have e:∀cs:List (List (List Int)),cs.map PyKgf.whole=cs:=fun cs=>by
  induction cs with
  |nil=>rfl
  |cons c cs ih=>rw[List.map_cons,Zsb,ih]
 unfold PyKgf.calls at h ⊢;cases ec:PyFlat.calls PyKgf.shape l.length l with
 |none=>rw[ec] at h;cases h
 |some cs =>
  rw[ec] at h;simp only[e] at h ⊢;rw[Bool.and_eq_true] at h;obtain⟨h1,h2⟩:=h;unfold PyFlat.atMost at h1;unfold KgfNeutral.asked at h2;simp only[Bool.and_eq_true,decide_eq_true_eq] at h1 h2;exact⟨cs,rfl,h1,h2.1.2,h2.2,rfl⟩
end Tl
namespace L2
open PySem PySem.Spec PyProof.Rows
theorem Zac.there{P:Program}{w:World}{H:Hp}{h:Heap}{a:Addr}{o:HO}(x:Zac P w H h a o):∃u,h.get? a=some u:=by
 cases o with
 |lst xs=>obtain⟨_,_,_,_,e⟩:=x;exact⟨_,e⟩
 |tup xs=>obtain⟨_,_,_,ob,e,_⟩:=x;exact⟨_,e⟩
 |dK kvs=>obtain⟨_,_,_,_,ob,_,_,e,_⟩:=x;exact⟨_,e⟩
 |dT kvs=>obtain⟨_,_,_,_,ob,_,_,e,_⟩:=x;exact⟨_,e⟩
 |set S n=>obtain⟨ob,_,_,_,e,_⟩:=x;exact⟨_,e⟩
 |ins C dx fs=>obtain⟨_,_,_,e,_⟩:=x;exact⟨_,e⟩
 |own y=>exact x
 |xd fs=>obtain⟨_,⟨_,_,_,e,_⟩,_⟩:=x;exact⟨_,e⟩
 |rng lo hi=>obtain⟨_,_,_,e⟩:=x;exact⟨_,e⟩
 |frz ob u=>obtain⟨e,_⟩:=x;exact⟨_,e⟩
 |tbl ps=>exact⟨_,(show h.get? a=some _ from x)⟩
 |met f y=>exact⟨_,(show h.get? a=some _ from x)⟩
 |ext φ=>obtain⟨_,⟨u,e⟩,_⟩:=x;exact⟨u,e⟩
structure Fl(P:Program)(w:World)(l:List Env)(H:Hp)(h0:Heap)(H':Hp)(C e:Addr)(B h:Heap):Prop where
 un:Un (frs l) [] H H' h0 h
 hok:HOk P w H' h
 fly:∃a0,Heap.FlyingW B l e (.ref C) a0 h
 kb:∀b o,h.get? b=some o->b∉frs l->(H' b≠none\/∃o0,h0.get? b=some o0)->B.get? b=some o
 fr:∀b∈frs l,H' b=none
section
variable{P:Program}{w:World}{l:List Env}{H H':Hp}{h0 h h' B:Heap}{C e:Addr}
theorem Fl.stays(F:Fl P w l H h0 H' C e B h)(st:B.StaysIn h'){b:Addr}{o:Obj}(q:h.get? b=some o)(nb:b∉frs l)(c:H' b≠none\/∃o0,h0.get? b=some o0):h'.get? b=some o:=st b o (F.kb b o q nb c)
theorem Fl.moved(F:Fl P w l H h0 H' C e B h)(st:B.StaysIn h')(up:h.UpToSlots h')(fly:∃a0,Heap.FlyingW B l e (.ref C) a0 h'):Fl P w l H h0 H' C e B h':=by
 obtain⟨a0,_,_,ff,_⟩:=F.fly;have nf:∀b∈frs l,∀o,h.get? b=some o->∀vs,o.data≠.fields vs:=fun b hb o q=>by
  obtain⟨_,o2,e2,k⟩:=ff.mem hb;rw[q] at e2;cases e2;exact k
 have nt:∀b u,H' b=some u->b∉frs l:=fun b u q hb=>by
  have z:=F.fr b hb;rw[q] at z;cases z
 refine⟨⟨fun b o q n hb hx=>?_,fun b o q n hb hx=>?_,F.un.free,fun b o q hx=>?_,F.un.Zbx,F.un.Zbk,F.un.Zby⟩,fun a o q=>?_,fly,fun b o q nb c=>?_,F.fr⟩
 ·exact F.stays st (F.un.keep b o q n hb hx) hb (.inr ⟨o,q⟩)
 ·obtain⟨sl,e1⟩:=F.un.slot b o q n hb hx;obtain⟨sl',e2⟩:=up b _ e1 (nf b hb _ e1);exact⟨sl',e2⟩
 ·obtain⟨o',e1⟩:=F.un.there b o q hx;by_cases hb:b∈frs l
  ·obtain⟨sl',e2⟩:=up b _ e1 (nf b hb _ e1);exact⟨_,e2⟩
  ·exact⟨o',F.stays st e1 hb (.inr ⟨o,q⟩)⟩
 ·refine(F.hok a o q).Zbw (fun b u hb e1=>?_) (fun _ z=>z) fun _ _ z=>z;rcases hb with rfl|hb
  ·exact F.stays st e1 (nt _ _ q) (.inl (by rw[q];simp))
  ·exact F.stays st e1 (nt _ _ hb) (.inl (by rw[hb];simp))
 ·have there:∃o',h.get? b=some o':=by
   rcases c with c|⟨o0,c⟩
   ·cases z:H' b with
    |none=>exact absurd z c
    |some u=>exact(F.hok b u z).there
   ·exact F.un.there b o0 c (by simp)
  obtain⟨o',e1⟩:=there;have e2:=F.kb b o' e1 nb c;have e3:=st b o' e2;rw[q] at e3;cases e3;exact e2
end
section
variable{X:Cx}{pins:List (Addr×Obj)}{σ:St}{H H':Hp}{s:Shared}{h h' B:Heap}{C e:Addr}
theorem Fl.Zl9(I:Inv X pins σ H s)(hs:X.stack=X.env::X.outer)(hex:X.ex=[])(F:Fl X.prog X.w X.stack H s.heap H' C e B h):Fl X.prog X.w X.outer X.H_0 X.s_0.heap H' C e B h:=by
 have nx:∀b,b∉X.ex:=fun b=>by rw[hex];simp
 have sub:∀b∈frs X.outer,b∈frs X.stack:=fun b hb=>by
  rw[hs];unfold frs at hb ⊢;rw[List.filterMap_cons];split
  ·exact hb
  ·exact List.mem_cons_of_mem _ hb
 have out:∀b o,X.s_0.heap.get? b=some o->b∉frs X.outer->b∉frs X.stack:=fun b o q nb hb=>by
  rcases List.mem_cons.mp (I.Zez b hb) with z|z
  ·exact absurd (Nat.lt_of_lt_of_le (Heap.lt_size q) I.ok.above) (by rw[z];exact Nat.lt_irrefl _)
  ·exact nb z
 have locN:∀b,b∉frs X.outer->b∈frs X.stack->b=X.env.locals:=fun b nb hb=>by
  rcases List.mem_cons.mp (I.Zez b hb) with z|z
  ·exact z
  ·exact absurd z nb
 refine⟨⟨fun b o q n hb _=>?_,fun b o q n hb _=>?_,fun b o q n _=>?_,fun b o q _=>?_,fun b xs q=>F.un.Zbx b xs (I.base.Zbx b xs q),fun b o xs q=>F.un.Zbk b o xs (I.base.Zbk b o xs q),fun b ps q=>?_⟩,F.hok,?_,fun b o q nb c=>?_,fun b hb=>F.fr b (sub b hb)⟩
 ·exact F.un.keep b o (I.base.keep b o q n hb (nx b)) (I.base.free b o q n (nx b)) (out b o q hb) (by simp)
 ·obtain⟨sl,e1⟩:=I.base.slot b o q n hb (nx b);obtain⟨sl',e2⟩:=F.un.slot b _ e1 (I.base.free b o q n (nx b)) (sub b hb) (by simp);exact⟨sl',e2⟩
 ·obtain⟨o',e1⟩:=I.base.there b o q (nx b);exact F.un.free b o' e1 (I.base.free b o q n (nx b)) (by simp)
 ·obtain⟨o',e1⟩:=I.base.there b o q (nx b);exact F.un.there b o' e1 (by simp)
 ·obtain⟨m1,e1⟩:=I.base.Zby b ps q;obtain⟨m2,e2⟩:=F.un.Zby b _ e1;exact⟨m1++m2,by rw[e2,Array.append_assoc]⟩
 ·obtain⟨a0,f1,f2,f3,f4⟩:=F.fly;rw[hs] at f3;exact⟨a0,f1,f2,f3.2.2,f4⟩
 ·refine F.kb b o q (fun hb=>?_) ?_
  ·rcases c with c|⟨o0,c⟩
   ·exact c (F.fr b hb)
   ·exact out b o0 c nb hb
  ·rcases c with c|⟨o0,c⟩
   ·exact .inl c
   ·exact .inr (I.base.there b o0 c (nx b))
theorem Fl.made{h1:Heap}{vs:List Value}{t:Addr}(I:Inv X pins σ H s)(hx:Heap.MadeExcOf s.heap h1 e (.ref C) vs)(up:h1.UpToSlots h')
  (fly:Heap.FlyingW (PySem.W.hideAll s.heap (frs X.stack)) X.outer e (.ref C) (.ref t) h') (hs:X.stack=X.env::X.outer) (hf:X.env.frame=some X.env.locals) :
  Fl X.prog X.w X.stack H s.heap H C e (PySem.W.hideAll s.heap (frs X.stack)) h':=by
 have st:=fly.1;have keepB:∀b o,s.heap.get? b=some o->b∉frs X.stack->h'.get? b=some o:=fun b o q nb=>st b o (PySem.W.hideAll_get _ q nb);have fr:=I.ZgS;have nt:∀b u,H b=some u->b∉frs X.stack:=fun b u q hb=>by
  have z:=fr b hb;rw[q] at z;cases z
 have upS:∀b∈frs X.stack,∀o,s.heap.get? b=some o->∃sl,h'.get? b=some { o with slots:=sl }:=fun b hb o q=>by
  obtain⟨_,o2,e2,k⟩:=I.stack.mem hb;rw[q] at e2;cases e2;exact up b o (hx.keeps b o q) k
 refine⟨⟨fun b o q _ hb _=>keepB b o q hb,fun b o q _ hb _=>upS b hb o q,fun _ _ _ n _=>n,fun b o q _=>?_,fun _ _ q=>q,fun _ _ _ q=>q,fun b ps q=>⟨#[],by rw[q];simp⟩⟩,fun a o q=>?_,⟨.ref t,st,fly.2.1,?_,fly.2.2.2⟩,fun b o q nb c=>?_,fr⟩
 ·by_cases hb:b∈frs X.stack
  ·obtain⟨sl,e1⟩:=upS b hb o q;exact⟨_,e1⟩
  ·exact⟨o,keepB b o q hb⟩
 ·refine(I.hok a o q).Zbw (fun b u hb e1=>?_) (fun _ z=>z) fun _ _ z=>z;rcases hb with rfl|hb
  ·exact keepB _ _ e1 (nt _ _ q)
  ·exact keepB _ _ e1 (nt _ _ hb)
 ·have hL:X.env.locals∈frs X.stack:=by
   rw[hs];unfold frs;rw[List.filterMap_cons,hf];exact List.mem_cons_self
  obtain⟨_,o2,e2,k⟩:=I.stack.mem hL;obtain⟨sl,e3⟩:=upS _ hL o2 e2;rw[hs];rw[hs] at hL;exact⟨by rw[I.ok.kind];decide,⟨X.env.locals,_,hf,PySem.W.hideAll_none _ hL,e3,k⟩,by rw[←hs];exact fly.2.2.1⟩
 ·have there:∃o',s.heap.get? b=some o':=by
   rcases c with c|c
   ·cases z:H b with
    |none=>exact absurd z c
    |some u=>exact(I.hok b u z).there
   ·exact c
  obtain⟨o',e1⟩:=there;have e3:=keepB b o' e1 nb;rw[q] at e3;cases e3;exact PySem.W.hideAll_get _ e1 nb
end
def CX1(P:Program)(w:World):CXT:=fun outer H s E e s'=>∃(C ea:Addr)(H':Hp)(B:Heap),e=.ref ea/\s'.os=s.os/\AllBare s'.gens/\Fl P w outer H s.heap H' C ea B s'.heap/\E (.ref C) none H'
structure Throws(X:Cx)(E:XK):Prop where
 hs:X.stack=X.env::X.outer
 hf:X.env.frame=some X.env.locals
 hex:X.ex=[]
 calm:X.calm=true
 xe:X.xe=fun e s'=>wpAny (model X.prog X.w) X.A (leaving X.env e) (fun _ s''=>CX1 X.prog X.w X.outer X.H_0 X.s_0 E e s'') (fun e' s''=>CX1 X.prog X.w X.outer X.H_0 X.s_0 E e' s'') s'
theorem Zt{P:Program}{w:World}{K:PySem.W.Frag}{mg:Str->Option Value}{base:Heap}{N:List Str}{qual:Str}{scope:Scope}{f:Addr}{cd:Value}{A:Around}{outer:List Env}{s:Shared}{H:Hp}{E:XK} :
  Throws (Zbp (CX1 P w) P w K mg base N qual scope f cd A outer s H E) E:=⟨rfl,rfl,rfl,rfl,rfl⟩
theorem Throws.own{X:Cx}{E:XK}(T:Throws X E):PassesOwn (model X.prog X.w) X.A X.env X.xe:=by
 rw[T.xe];exact PassesOwn.leaving
theorem ZJ{X:Cx}{E:XK}(T:Throws X E):Passes (CX1 X.prog X.w) X E:=by
 intro pins σ H s e s' I c;obtain⟨C,ea,H',B,rfl,os,bare,F,q⟩:=c;rw[T.xe];obtain⟨a0,fly⟩:=F.fly;have fly':Heap.FlyingW B (X.env::X.outer) ea (.ref C) a0 s'.heap:=by rw[←T.hs];exact fly
 refine wpAny_leaves_onW (by rw[←T.hs];exact I.ok.frames) T.hf fly' fun h' fl up=>?_;have st:=fl.1;have flS:Heap.FlyingW B X.stack ea (.ref C) a0 h':=by
  refine⟨st,fl.2.1,?_,fl.2.2.2⟩;refine fly.2.2.1.of_keeps fun b o hb hn=>?_;obtain⟨sl,e1⟩:=up b o hb hn;exact⟨_,e1,rfl⟩
 exact⟨C,ea,H',B,rfl,os.trans I.os,bare,(F.moved st up ⟨a0,flS⟩).Zl9 I T.hs T.hex,q⟩
structure Exc(K:PySem.W.Frag)(C:Addr)(bmB:List Value)(newId:String):Prop where
 ok:PySem.W.excIn K C bmB newId=true
theorem Exc.obj{K:PySem.W.Frag}{C:Addr}{bmB:List Value}{newId:String}{h:Heap}(x:Exc K C bmB newId)(kin:K.In h) :
  ∃bm N nm q bs hdct sn sub ab col dd k0 k1 k2 k3 k5 mN,h.get? C=some (excClassObj nm q C N bs bm hdct sn sub ab col dd k0 k1 k2 k3 k5 newId)/\h.Ns N mN/\mN "__init__"=none/\OwnTail h bmB bm:=by
 have q:=x.ok;unfold PySem.W.excIn at q;split at q
 ·rename_i dd cd sl lk;split at q
  ·rename_i C' bm k0 k1 k2 k3 n k5 em es;simp only[Bool.and_eq_true,beq_iff_eq,Bool.not_eq_true'] at q;obtain⟨⟨⟨⟨⟨rfl,rfl⟩,z1⟩,z2⟩,z3⟩,z4⟩:=q;obtain⟨nm,bs,mro,ns,qn,hd,sn,sub,ab,col,del⟩:=cd;dsimp only at em z1 z3 z4;subst em z1;obtain⟨ls⟩:=sl;dsimp only at es;subst es;exact⟨bm,ns,nm,qn,bs,hd,sn,sub,ab,col,dd,k0,k1,k2,k3,k5,_,kin _ _ lk,.of_isNs (PySem.W.isNs_of_in kin z3),PySem.W.nsMap_none_of_in kin z3 z4,PySem.W.tail_of_in kin z2⟩
  ·cases q
 ·cases q
def Zsh(C:Addr)(E:XK)(ta:TA):TS:=fun _ σ H=>ta σ H fun vs H1=>vs.length<=sizeLine/\E (.ref C) none H1
theorem Zma{X:Cx}{C:Addr}{E:XK}{x:Str}{np cpos pos:Pos}{e:Expr}{es:List Expr}{ta:TA}{Bn newId initId:String}{bmB:List Value}(T:Throws X E)(ex:Exc X.K C bmB newId)(FB:ExcBaseFacts Bn newId initId bmB)(hg:Gl X x)(hm:X.mg x=some (.ref C))
  (ha:PA X (e::es) ta) (hdb:(x==("__debug__":Str))=false:=by decide) (he:starEach (e::es) X.env=(false,eval e X.env)::starEach es X.env:=by rfl) (hpl:(backTo cpos (starEach es X.env)).any (·.1)=false:=by rfl) :
  PS X (.Raise (some (.Call (.Name x np) (e::es) [] cpos)) none pos) (Zsh C E ta):=by
 intro pins s σ H D I h;obtain⟨bm,N,nm,q,bs,hd,sn,sub,ab,col,dd,k0,k1,k2,k3,k5,mN,hC,hN,hni,TL⟩:=ex.obj I.ok.mod.kin;refine wpAny_Raise_call_subT (C:=C) (nm:=nm) (q:=q) (N:=N) (bs:=bs) (bm:=bm) (hdct:=hd) (sn:=sn) (sub:=sub) (ab:=ab) (col:=col) (dd:=dd) (k0:=k0) (k1:=k1) (k2:=k2) (k3:=k3) (k5:=k5)
  FB (mN:=mN) (TL.hasType FB.hasBase) (I.ok.hd T.calm) (by rw[he];show(false||(backTo cpos (starEach es X.env)).any (·.1))=false;rw[hpl];rfl) hni (ZdO I hg hm ⟨rfl,?_⟩ hdb)
 have h1:=ha cpos pins s σ H _ I h;rw[he] at h1 ⊢;refine Calls.evalArgs_plain (thn h1 fun us s2 ⟨vs,H2,I2,r,z,hE⟩=>?_);have kb:=I2.bk;refine⟨rfl,by rw[←r.length];exact z,kb _ _ hC,hN.keeps kb,TL.keeps kb,fun h1 ea mk=>?_⟩;rw[T.xe];have hin:∀env∈X.stack,∀b,env.frame=some b->b∈frs X.stack:=fun env he b hb=>List.mem_filterMap.mpr ⟨env,he,hb⟩;refine wpAny_leaves_madeW (h:=s2.heap) (base:=PySem.W.hideAll s2.heap (frs X.stack)) (env:=X.env) (outer:=X.outer) (by rw[←T.hs];exact I2.ok.frames) T.hf (fun b o q=>PySem.W.of_hideAll _ q) (by rw[←T.hs];exact PySem.W.funFrames_hide I2.stack hin) mk fun h' t fl _ _ up=>?_;exact⟨C,ea,H2,_,rfl,I2.os,I2.bare,(Fl.made I2 mk up fl T.hs T.hf).Zl9 I2 T.hs T.hex,hE⟩
theorem Fun.okX{P:Program}{w:World}{K:PySem.W.Frag}{mg:Str->Option Value}{base:Heap}{x qual:Str}{st:Stmt}{f:Addr}{fd:FuncData}{N ps:List Str}{k:Nat}{sp:Sp}(F:Fun K x qual st f fd)(S:Zo N ps (Zi st))(len:∀vs H Q E,sp vs H Q E->vs.length=ps.length)
  (hbody:∀(cdv:Value)(A:Around)(outer:List Env)(s:Shared)(H:Hp)(vs:List V)(Q:VK)(E:XK),ZZ k (A.deeper (envOfC qual (Zi st) s.heap.objs.size f cdv))->sp vs H Q E ->
   ∃t,PSs (Zbp (CX1 P w) P w K mg base N qual (Zi st) f cdv A outer s H E) (ZaV st) t/\t { nx:=fun _ H'=>Q .non H',rt:=Q } (start N vs) H):ZaH P w K mg base (CX1 P w) (k+1) f fd ps sp:=by
 obtain⟨oc,od,kV,doc,pm,an,cdv,ct,osl,rfl,lk,hcd⟩:=F.ex;exact Zky lk hcd S len fun A outer s H vs Q E hr hsp=>hbody cdv A outer s H vs Q E hr hsp
abbrev Cx.within(X:Cx)(pn:List (Addr×Obj))(E:Value->Shared->Prop):Cx:={ X with pn:=pn,xe:=E }
abbrev Cx.Zdx(X:Cx)(e:Addr):Cx:={ X with A:=X.A.mark (some (.ref e)),calm:=false,xe:=fun _ _=>False }
section
variable{X:Cx}{pins pn:List (Addr×Obj)}{σ:St}{H:Hp}{s:Shared}{W:Value->Shared->Prop}{e:Addr}
theorem Inv.within(I:Inv X pins σ H s)(W:Value->Shared->Prop):Inv (X.within (X.pn++pins) W) [] σ H s :=
 ⟨⟨I.ok.mod,I.ok.kind,I.ok.glob,I.ok.blt,I.ok.above,I.ok.inj,I.ok.has,I.ok.cab,I.ok.hd,I.ok.frames,I.ok.stk,I.ok.exf,I.ok.bs,I.ok.bsz,I.ok.Zdb,I.ok.Zdc,I.ok.Zbl,I.ok.frf⟩,I.os,I.bare,I.base,I.loc,I.cell,I.free,I.Za0,
  fun p hp=>I.pin p (by simpa using hp),I.hok,I.len⟩
theorem Inv.Zmb{ps:List (Addr×Obj)}(ok:X.Ok)(I:Inv (X.within (X.pn++pins) W) ps σ H s):Inv X pins σ H s :=
 ⟨ok,I.os,I.bare,I.base,I.loc,I.cell,I.free,I.Za0,fun p hp=>I.pin p (List.mem_append_left _ hp),I.hok,I.len⟩
theorem Inv.Zdx(I:Inv X pins σ H s)(e:Addr):Inv (X.Zdx e) pins σ H s :=
 ⟨⟨I.ok.mod,I.ok.kind,I.ok.glob,I.ok.blt,I.ok.above,I.ok.inj,I.ok.has,I.ok.cab,(fun z=>Bool.noConfusion z),I.ok.frames,I.ok.stk,I.ok.exf,I.ok.bs,I.ok.bsz,I.ok.Zdb,I.ok.Zdc,I.ok.Zbl,I.ok.frf⟩,I.os,I.bare,I.base,I.loc,I.cell,I.free,I.Za0,
  I.pin,I.hok,I.len⟩
theorem Inv.uncaught(ok:X.Ok)(I:Inv (X.Zdx e) pins σ H s):Inv X pins σ H s :=
 ⟨ok,I.os,I.bare,I.base,I.loc,I.cell,I.free,I.Za0,I.pin,I.hok,I.len⟩
theorem SP.back{Y:Cx}{pY:List (Addr×Obj)}{D:Ends}{f:Flow}{s':Shared}(k:∀σ' H',Inv Y pY σ' H' s'->Inv X pins σ' H' s')(h:SP Y pY D f s'):SP X pins D f s':=by
 cases f with
 |next=>obtain⟨σ',H',I,q⟩:=h;exact⟨σ',H',k _ _ I,q⟩
 |brk=>obtain⟨σ',H',I,q⟩:=h;exact⟨σ',H',k _ _ I,q⟩
 |cont=>obtain⟨σ',H',I,q⟩:=h;exact⟨σ',H',k _ _ I,q⟩
 |ret u=>obtain⟨v,σ',H',I,r,q⟩:=h;exact⟨v,σ',H',k _ _ I,r,q⟩
end
inductive PHs(X:Cx):List ExceptHandler->List (Addr×TS)->Prop
 |nil:PHs X [] []
 |cons {C:Addr} {x:Str} {np hpos:Pos} {b0:Stmt} {suite:List Stmt} {ts:TS} {newId:String} {bmB:List Value} {hs:List ExceptHandler} {trs:List (Addr×TS)} (ex:Exc X.K C bmB newId) (hb:bmB.contains (.type "BaseException")=true) (hg:Gl X x) (hm:X.mg x=some (.ref C))
   (h2:∀e,PSs (X.Zdx e) (b0::suite) ts) (hdb:(x==("__debug__":Str))=false) (r:PHs X hs trs):PHs X (.ExceptHandler (some (.Name x np)) none (b0::suite) hpos::hs) ((C,ts)::trs)
def tHs(K:PySem.W.Frag)(n:Nat)(D:Ends)(H:Hp)(v:Value):List (Addr×TS)->Prop
 |[]=>False
 |(C,ts)::r=>(v=.ref C/\ts D (List.replicate n none) H)\/(PySem.W.exmOne K v (.ref C)=some false/\tHs K n D H v r)
def Zsi(K:PySem.W.Frag)(n:Nat)(tb:XK->TS)(trs:List (Addr×TS)):TS:=fun D σ H=>tb (fun v _ H'=>tHs K n D H' v trs) D σ H
theorem Zmc{X:Cx}{pos:Pos}{body:List Stmt}{h0:ExceptHandler}{hs:List ExceptHandler}{tb:XK->TS}{trs:List (Addr×TS)}(hst:X.stack=X.env::X.outer)(hf:X.env.frame=some X.env.locals)
  (h1:∀pn W E,Passes (CX1 X.prog X.w) (X.within pn W) E->PSs (X.within pn W) body (tb E)) (h2:PHs X (h0::hs) trs) :
  PS X (.Try body (h0::hs) [] [] pos) (Zsi X.K X.N.length tb trs):=by
 intro pins s σ H D I h;refine wpAny_Try_except ?_;have pass:Passes (CX1 X.prog X.w) (X.within (X.pn++pins) fun e s₁=>wpAny (model X.prog X.w) X.A (noteFrame e X.env) (fun _ s₂=>wpAny (model X.prog X.w) X.A (setFlight e none)
   (fun _ s₃=>wpAny (model X.prog X.w) X.A (handleBy e X.env (h0::hs)) (SP X pins D) X.xe s₃) X.xe s₂) X.xe s₁) (fun v _ H'=>tHs X.K X.N.length D H' v trs):=by
  intro pins' σ' H1 s1 e s' I1 c;obtain⟨C,ea,H',B,rfl,os,bare,F,q⟩:=c;have I1x:Inv X pins σ' H1 s1:=I1.Zmb I.ok;obtain⟨a0,fly⟩:=F.fly;have fly0:Heap.FlyingW B (X.env::X.outer) ea (.ref C) a0 s'.heap:=by rw[←hst];exact fly
  refine wpAny_looks_onW (by rw[←hst];exact I.ok.frames) hf fly0 fun h4 held4 up4=>?_;refine wpAny_landsW held4 fun h5 fl5 up5=>?_;have F5:=F.moved fl5.1 (up4.trans up5) ⟨a0,by rw[hst];exact fl5⟩;obtain⟨ob,hob,hobc⟩:=fl5.there;have I5:Inv X pins σ' H' { s' with heap:=h5 }:=I1x.ZgV os F5.un F5.hok bare fun b z=>absurd z (by simp);have nb:(Value.ref ea)≠byPass:=by intro z;cases z
  have go:∀hs trs,PHs X hs trs->tHs X.K X.N.length D H' (.ref C) trs->wpAny (model X.prog X.w) X.A (handleBy (.ref ea) X.env hs) (SP X pins D) X.xe { s' with heap:=h5 }:=by
   intro hs trs ph;induction ph with
   |nil=>exact fun z=>z.elim
   |@cons C' x np hpos b0 suite ts newId bmB hs trs ex hb hg hm h2 hdb r ih =>
    intro q;refine wpAny_handleBy_cons (codeAny_handlers_test ?_) nb;have I5c:=I5.Zdx ea;refine ZdO (X:=X.Zdx ea) I5c hg hm ?_ hdb;rcases q with⟨e,q⟩|⟨e,q⟩
    ·cases e;obtain⟨bm,N,nm,qn,bs,hd,sn,sub,ab,col,dd,k0,k1,k2,k3,k5,mN,hC,hN,hni,TL⟩:=ex.obj I5.kIn;refine wpAny_excMatches_sub_self hC hob hobc (TL.hasType hb) (codeAny_handlers_suite ?_);refine lands_againW fl5 fun h6 fl6 up6=>?_;have F6:=F5.moved fl6.1 up6 ⟨a0,by rw[hst];exact fl6⟩;have I6:Inv X pins σ' H' { s' with heap:=h6 }:=I1x.ZgV os F6.un F6.hok bare fun b z=>absurd z (by simp);have I6w:Inv X pins (List.replicate X.N.length none) H' { s' with heap:=h6 }:=I6.weak (by rw[List.length_replicate,I6.len]) fun i v z=>by
      rw[List.getElem?_replicate] at z;split at z<;>cases z
     refine wpAny_mono (h2 ea pins _ _ _ D (I6w.Zdx ea) q) (fun f s2 z=>?_) fun _ _ z=>z.elim;exact z.back fun σ2 H2 I2=>I2.uncaught I.ok
    ·have LT:PySem.W.Looks (model X.prog X.w) h5 (typeOf (.ref ea)) (.ref C):=by
      rw[←hobc];exact(PySem.W.Looks.ld hob).andThen .now
     exact(PySem.W.exm_one I5.kIn LT e).here (ih q)
  exact go _ _ h2 q
 refine wpAny_mono (h1 _ _ _ pass [] s σ H D (I.within _) h) (fun f s1 q=>?_) fun e s1 q=>q;have q':SP X pins D f s1:=q.back fun σ2 H2 I2=>I2.Zmb I.ok;cases f with
 |next =>
  obtain⟨σ',H',I',z⟩:=q';exact wpAny_execs_nil ⟨σ',H',I',z⟩
 |ret v=>exact q'
 |brk=>exact q'
 |cont=>exact q'
end L2
namespace L2
open PySem PySem.Spec PyProof.Rows
structure Zj(K:PySem.W.Frag)(mg:Str->Option Value)(x:Str)(st:Stmt)(f:Addr):Prop where
 mg:mg x=some (.ref f)
 fn:∃fd,Fun K x x st f fd
structure MethAt(K:PySem.W.Frag)(C:Addr)(m qual:Str)(st:Stmt)(f:Addr):Prop where
 mt:ZeG K C m f
 fn:∃fd,Fun K m qual st f fd
theorem Zj.mk'{K:PySem.W.Frag}{mg:Str->Option Value}{x:Str}{st:Stmt}{f:Addr}{oc:Value}{od an:Option Addr}{osl:Array (Option Value)}{kV doc pm cdv ct:Value}(h:mg x=some (.ref f))(l:K.lookup f=some ⟨oc,od,.func (PySem.W.fnOf x x (ZbS st) (ZaV st) (Zi st) .none kV doc pm an cdv ct),osl⟩)
  (c:PySem.W.codeIn K cdv x=true) (k:PySem.W.keepIn K (.ref f)=true):Zj K mg x st f:=⟨h,_,Zht l c k⟩
theorem MethAt.mk'{K:PySem.W.Frag}{C:Addr}{m qual:Str}{st:Stmt}{f:Addr}{oc:Value}{od an:Option Addr}{osl:Array (Option Value)}{kV doc pm cdv ct:Value}(a:PySem.W.findIn K (.ref C) m=some (some (.ref f)))(i:PySem.W.isFn K (.ref f)=true)(l:K.lookup f=some ⟨oc,od,.func (PySem.W.fnOf m qual (ZbS st) (ZaV st) (Zi st) .none kV doc pm an cdv ct),osl⟩)
  (c:PySem.W.codeIn K cdv qual=true) (k:PySem.W.keepIn K (.ref f)=true):MethAt K C m qual st f:=⟨⟨a,i,k⟩,_,Zht l c k⟩
def ZeZ(x qual:Str)(st:Stmt)(ps:List Str):Prop:=∀(kV doc pm:Value)(an:Option Addr)(cdv ct:Value)(us:List Value),us.length=ps.length->bindArgs (PySem.W.fnOf x qual (ZbS st) (ZaV st) (Zi st) .none kV doc pm an cdv ct) ⟨us,[]⟩=pure (ps.zip us)
def Can(P:Program)(w:World)(K:PySem.W.Frag)(mg:Str->Option Value)(base:Heap)(CX:CXT)(k:Nat)(x:Str)(ps:List Str)(sp:Sp):Prop :=
 ∃f fd,mg x=some (.ref f)/\PySem.W.keepIn K (.ref f)=true/\Binds K fd ps []/\ZaH P w K mg base CX k f fd ps sp
def ZV(P:Program)(w:World)(K:PySem.W.Frag)(mg:Str->Option Value)(base:Heap)(CX:CXT)(k:Nat)(C:Addr)(m:Str)(ps:List Str)(sp:Sp):Prop :=
 ∃f fd,ZeG K C m f/\Binds K fd ps []/\ZaH P w K mg base CX k f fd ps sp
def ZaS(P:Program)(w:World)(K:PySem.W.Frag)(mg:Str->Option Value)(base:Heap)(CX:CXT)(k:Nat)(x:Str)(C:Addr)(ps:List Str)(sp:Sp):Prop :=
 ∃f fd,mg x=some (.ref C)/\Mk K C f/\Binds K fd ps []/\ZaH P w K mg base CX k f fd ps sp
section
variable{P:Program}{w:World}{K:PySem.W.Frag}{mg:Str->Option Value}{base:Heap}{x qual m:Str}{st:Stmt}{f C:Addr}{N ps:List Str}{k:Nat}{sp:Sp}
theorem Zj.can(D:Zj K mg x st f)(S:Zo N ps (Zi st))(hb:ZeZ x x st ps)(len:∀vs H Q E,sp vs H Q E->vs.length=ps.length)
  (hbody:∀(cdv:Value)(A:Around)(outer:List Env)(s:Shared)(H:Hp)(vs:List V)(Q:VK)(E:XK),ZZ k (A.deeper (envOfC x (Zi st) s.heap.objs.size f cdv))->sp vs H Q E ->
   ∃t,PSs (Zbp CX0 P w K mg base N x (Zi st) f cdv A outer s H E).nox (ZaV st) t/\t { nx:=fun _ H'=>Q .non H',rt:=Q } (start N vs) H):Can P w K mg base CX0 (k+1) x ps sp:=by
 obtain⟨fd,F⟩:=D.fn;exact⟨f,fd,D.mg,F.kp,F.binds hb,F.ok S len hbody⟩
theorem Zj.Zap(D:Zj K mg x st f)(S:Zo N ps (Zi st))(hb:ZeZ x x st ps)(len:∀vs H Q E,sp vs H Q E->vs.length=ps.length)
  (hbody:∀(cdv:Value)(A:Around)(outer:List Env)(s:Shared)(H:Hp)(vs:List V)(Q:VK)(E:XK),ZZ k (A.deeper (envOfC x (Zi st) s.heap.objs.size f cdv))->sp vs H Q E ->
   ∃t,PSs (Zbp (CX1 P w) P w K mg base N x (Zi st) f cdv A outer s H E) (ZaV st) t/\t { nx:=fun _ H'=>Q .non H',rt:=Q } (start N vs) H):Can P w K mg base (CX1 P w) (k+1) x ps sp:=by
 obtain⟨fd,F⟩:=D.fn;exact⟨f,fd,D.mg,F.kp,F.binds hb,F.okX S len hbody⟩
theorem MethAt.can(D:MethAt K C m qual st f)(S:Zo N ps (Zi st))(hb:ZeZ m qual st ps)(len:∀vs H Q E,sp vs H Q E->vs.length=ps.length)
  (hbody:∀(cdv:Value)(A:Around)(outer:List Env)(s:Shared)(H:Hp)(vs:List V)(Q:VK)(E:XK),ZZ k (A.deeper (envOfC qual (Zi st) s.heap.objs.size f cdv))->sp vs H Q E ->
   ∃t,PSs (Zbp CX0 P w K mg base N qual (Zi st) f cdv A outer s H E).nox (ZaV st) t/\t { nx:=fun _ H'=>Q .non H',rt:=Q } (start N vs) H):ZV P w K mg base CX0 (k+1) C m ps sp:=by
 obtain⟨fd,F⟩:=D.fn;exact⟨f,fd,D.mt,F.binds hb,F.ok S len hbody⟩
theorem MethAt.Zap(D:MethAt K C m qual st f)(S:Zo N ps (Zi st))(hb:ZeZ m qual st ps)(len:∀vs H Q E,sp vs H Q E->vs.length=ps.length)
  (hbody:∀(cdv:Value)(A:Around)(outer:List Env)(s:Shared)(H:Hp)(vs:List V)(Q:VK)(E:XK),ZZ k (A.deeper (envOfC qual (Zi st) s.heap.objs.size f cdv))->sp vs H Q E ->
   ∃t,PSs (Zbp (CX1 P w) P w K mg base N qual (Zi st) f cdv A outer s H E) (ZaV st) t/\t { nx:=fun _ H'=>Q .non H',rt:=Q } (start N vs) H):ZV P w K mg base (CX1 P w) (k+1) C m ps sp:=by
 obtain⟨fd,F⟩:=D.fn;exact⟨f,fd,D.mt,F.binds hb,F.okX S len hbody⟩
theorem MethAt.ZcX(D:MethAt K C "__init__" qual st f)(hm:mg x=some (.ref C))(mk:PySem.W.makesIn K C=true)(kc:PySem.W.keepIn K (.ref C)=true)(S:Zo N ps (Zi st))(hb:ZeZ "__init__" qual st ps)(len:∀vs H Q E,sp vs H Q E->vs.length=ps.length)
  (hbody:∀(cdv:Value)(A:Around)(outer:List Env)(s:Shared)(H:Hp)(vs:List V)(Q:VK)(E:XK),ZZ k (A.deeper (envOfC qual (Zi st) s.heap.objs.size f cdv))->sp vs H Q E ->
   ∃t,PSs (Zbp CX0 P w K mg base N qual (Zi st) f cdv A outer s H E).nox (ZaV st) t/\t { nx:=fun _ H'=>Q .non H',rt:=Q } (start N vs) H):ZaS P w K mg base CX0 (k+1) x C ps sp:=by
 obtain⟨fd,F⟩:=D.fn;exact⟨f,fd,hm,⟨mk,D.mt.at_,D.mt.fn,kc⟩,F.binds hb,F.ok S len hbody⟩
end
section
variable{X:Cx}{CX:CXT}{j k:Nat}{C:Addr}{ps:List Str}{sp:Sp}{E:XK}{x m:Str}{p pos apos:Pos}{e o:Expr}{es:List Expr}{ta:TE}{t:TA}
theorem Zp(F:Can X.prog X.w X.K X.mg X.base CX j x ps sp)(hr:ZZ k X.A)(hx:Passes CX X E)(ha:PA X (e::es) t)(hjk:j<=k:=by decide)(hg:Gl X x:=by rfl)(hdb:(x==("__debug__":Str))=false:=by decide)
  (he:starEach (e::es) X.env=(false,eval e X.env)::starEach es X.env:=by rfl) (hpl:(backTo pos (starEach es X.env)).any (·.1)=false:=by rfl):PE X (.Call (.Name x p) (e::es) [] pos) (Zb7 sp [] E t):=by
 obtain⟨f,fd,h1,h2,h3,h4⟩:=F;exact Zpo (h4.mono hjk) hr hg h1 h2 h3 .nil hx ha hdb he hpl
theorem Z8{pl:Sem Bool}(he:PE X o ta)(c:Cls X.K C)(F:ZV X.prog X.w X.K X.mg X.base CX j C m ps sp)(hr:ZZ k X.A)(hx:Passes CX X E)(ha:PA X (e::es) t)(hjk:j<=k:=by decide)
  (hst:starEach (e::es) X.env=(false,eval e X.env)::starEach es X.env:=by rfl) (hpl:(backTo pos (starEach es X.env)).any (·.1)=false:=by rfl)
  (ht:eval (.Call (.Attribute o m apos) (e::es) [] pos) X.env=(do
   let ov ←eval o X.env
   standAt apos.atName
   let (f,first) ←holding [ov] (getMethod ov m pl)
   callWith pos f first (backTo pos (starEach (e::es) X.env)) (backToKw pos (keywordEach [] X.env))):=by rfl) :
  PE X (.Call (.Attribute o m apos) (e::es) [] pos) (ZeH C m sp [] E ta t):=by
 obtain⟨f,fd,h1,h2,h3⟩:=F;exact Zpp he c h1 (h3.mono hjk) hr h2 .nil hx ha hst hpl ht
theorem Zed{pl:Sem Bool}(he:PE X o ta)(c:Cls X.K C)(F:ZV X.prog X.w X.K X.mg X.base CX j C m ps sp)(hr:ZZ k X.A)(hx:Passes CX X E)(hjk:j<=k:=by decide)
  (ht:eval (.Call (.Attribute o m apos) [] [] pos) X.env=(do
   let ov ←eval o X.env
   standAt apos.atName
   let (f,first) ←holding [ov] (getMethod ov m pl)
   callWith pos f first (backTo pos (starEach [] X.env)) (backToKw pos (keywordEach [] X.env))):=by rfl) :
  PE X (.Call (.Attribute o m apos) [] [] pos) (ZeH C m sp [] E ta Zaf):=by
 obtain⟨f,fd,h1,h2,h3⟩:=F;exact Zpq he c h1 (h3.mono hjk) hr h2 .nil hx ht
theorem Ze0(F:ZaS X.prog X.w X.K X.mg X.base CX j x C ps sp)(hr:ZZ (k+1) X.A)(hx:Passes CX X E)(ha:PA X (e::es) t)(hjk:j<=k:=by decide)(hg:Gl X x:=by rfl)(hdb:(x==("__debug__":Str))=false:=by decide)
  (he:starEach (e::es) X.env=(false,eval e X.env)::starEach es X.env:=by rfl) (hpl:(backTo pos (starEach es X.env)).any (·.1)=false:=by rfl):PE X (.Call (.Name x p) (e::es) [] pos) (Zfv C sp [] E t):=by
 obtain⟨f,fd,h1,h2,h3,h4⟩:=F;exact Zpr h2 (h4.mono hjk) hr hg h1 h3 .nil hx ha hdb he hpl
theorem Zh1(F:ZaS X.prog X.w X.K X.mg X.base CX j x C ps sp)(hr:ZZ (k+1) X.A)(hx:Passes CX X E)(hjk:j<=k:=by decide)(hg:Gl X x:=by rfl)(hdb:(x==("__debug__":Str))=false:=by decide):PE X (.Call (.Name x p) [] [] pos) (Zfv C sp [] E Zaf):=by
 obtain⟨f,fd,h1,h2,h3,h4⟩:=F;exact Zps h2 (h4.mono hjk) hr hg h1 h3 .nil hx hdb
end
end L2
namespace L2
open PySem PySem.Spec PyProof.Rows
theorem readsW_ints{R:PySem.W.WRecords}{cl:Str->Option Addr}{h:Heap}:∀{zs:List Int}{its:List Value},Zn (zs.map V.int) its->PySem.W.ReadsAllW R cl h its (zs.map PySem.W.WData.int) []
 |[],_,r=>by
  cases r;exact .nil
 |z::zs,_,r=>by
  cases r with
  |cons q t =>
   obtain⟨tk,e⟩:=q;subst e;exact .cons (.int z tk) (readsW_ints t)
theorem Zsj{P:Program}{w:World}{K:PySem.W.Frag}{mg mb:Str->Option Value}{CX:CXT}{k:Nat}{fa a:Addr}{fd:FuncData}{x:Str}{sp:Sp}{s₁:Shared}{vs:List Value}{ns zs:List Int}
  (KX:K.In s₁.heap) (hns:s₁.heap.Ns mainGlobals mg) (hb:s₁.heap.Ns builtinsNs mb) (hbb:∀x:Str,x≠"__name__"->mb x=bootBuiltins x) (hlim:s₁.heap.NoLimit) (hg:s₁.gens=#[])
  (ha:s₁.heap.get? a=some { cls:=.type "list",data:=.seq vs.toArray }) (hi:IntsAre vs ns) (hl:ns.length<=sizeLine) (hr:ZZ k callerA)
  (F:∀base:Heap,K.In base->base.Ns mainGlobals mg->ZaH P w K mg base CX k fa fd [x] sp) (hbind:∀(s:Shared)(u:Value),BindsTo s fd ⟨[u],[]⟩ [(x,u)])
  (hsp:∀H:Hp,Zhs H->SqL K H a (ns.map V.int)->sp [.ref a] H (fun v H'=>∃p,v=.ref p/\H' p=some (.lst (zs.map V.int))) fun _ _ _=>False)
  (hCX:∀H e s',CX [] H s₁ (fun _ _ _=>False) e s'->False) :
  codeAny (model P w) callerA (.call (.ref fa) ⟨[.ref a],[]⟩) (fun r s'=>(∃(p:Addr)(its:List Value)(n:Nat),r=.ok (.ret (.ref p))/\s'.heap.get? p=some { cls:=.type "list",data:=.seq its.toArray n }/\Zn (zs.map V.int) its)/\OldK s₁.heap s'.heap/\s'.os=s₁.os/\AllBare s'.gens) s₁:=by
 have rv:=Zk2 hi;have lenV:=hi.length;have core:∀H:Hp,Zhs H->SqL K H a (ns.map V.int)->HOk P w H s₁.heap->(∀b,H b≠none->b=a)->(H a≠none->K.lookup a=none) ->
   codeAny (model P w) callerA (.call (.ref fa) ⟨[.ref a],[]⟩) (fun r s'=>(∃(p:Addr)(its:List Value)(n:Nat),r=.ok (.ret (.ref p))/\s'.heap.get? p=some { cls:=.type "list",data:=.seq its.toArray n }/\Zn (zs.map V.int) its)/\OldK s₁.heap s'.heap/\s'.os=s₁.os/\AllBare s'.gens) s₁:=by
  intro H hO hS hok hA hK;have base_of:∀{b:Addr}{o:Obj},s₁.heap.get? b=some o->H b=none->(Zco s₁.heap H).get? b=some o:=fun e n=>Zoy e n;have noA:∀{b:Addr}{o:Obj}{es:Array DictEntry}{ep:Nat},s₁.heap.get? b=some o->o.data=.dict es ep->H b=none:=fun{b o es ep} e d=>by
   cases q:H b with
   |none=>rfl
   |some u =>
    have e':b=a:=hA b (by rw[q];simp);subst e';rw[ha] at e;cases e;have d':Data.seq vs.toArray _=Data.dict es ep:=d;cases d'
  have nsK:∀{b:Addr}{m:Str->Option Value},s₁.heap.Ns b m->(Zco s₁.heap H).Ns b m:=fun{b m} ⟨o,es,ep,e,d,r⟩=>⟨o,es,ep,base_of e (noA e d),d,r⟩
  have hKb:K.In (Zco s₁.heap H):=fun b o e=>base_of (KX b o e) (by
   cases q:H b with
   |none=>rfl
   |some u =>
    have e':b=a:=hA b (by rw[q];simp);subst e';rw[hK (by rw[q];simp)] at e;cases e)
  have hM:Mod K mg (Zco s₁.heap H):=⟨hKb,nsK hns,⟨mb,nsK hb,hbb⟩,let ⟨mc,h1,h2⟩:=hlim;⟨mc,nsK h1,h2⟩⟩
  have e0:Zdj P w K mg (Zco s₁.heap H) callerA [] s₁ H:=⟨rfl,hM,fun b o e=>Zoz e,Nat.le_of_eq (Zox _ _),trivial,fun b hb=>absurd (show b∈([]:List Addr) from hb) (by simp),hok,.of_eq hg⟩
  refine codeAny_mono ((F _ hKb (nsK hns)).run callerA [] s₁ H ⟨[.ref a],[]⟩ [.ref a] [.ref a] _ _ hr e0 (hbind s₁ (.ref a)) (.cons rfl .nil) (hsp H hO hS)) fun r s' h=>?_;cases r with
  |error e=>exact(hCX H e s' h).elim
  |ok fl =>
   cases fl with
   |next=>exact False.elim h
   |brk=>exact False.elim h
   |cont=>exact False.elim h
   |ret u =>
    obtain⟨v,H',os,bare,un,hok',r',q⟩:=h;obtain⟨p,e1,e2⟩:=q;subst e1;obtain rfl:u=Value.ref p:=r';obtain⟨_,its,n,rv2,e3⟩:=hok' p _ e2;refine⟨⟨p,its,n,rfl,e3,rv2⟩,OldK.of_keep fun b o e=>?_,os,bare⟩;cases q:H b with
    |none=>exact un.keep b o e q (by intro z;exact absurd (show b∈([]:List Addr) from z) (by simp)) (by simp)
    |some u =>
     rcases hO b with z|⟨ob,xs,z⟩
     ·rw[q] at z;cases z
     ·have z2:=un.Zbk b ob _ z;obtain⟨e1,_⟩:=hok b _ z;obtain⟨e2,_⟩:=hok' b _ z2;rw[e] at e1;cases e1;exact e2
 cases hk:K.lookup a with
 |some o =>
  have e:=KX a o hk;rw[ha] at e;cases e;refine core (fun _=>none) (fun _=>.inl rfl) (.inr ⟨_,vs.toArray,_,hk,rfl,rfl,rfl,by rw[List.size_toArray,lenV];exact hl,by simpa using rv⟩) (fun b u z=>by have z':(none:Option HO)=some u:=z;cases z') (fun b z=>absurd rfl z) fun z=>absurd rfl z
 |none =>
  refine core (fun b=>if b=a then some (.frz { cls:=.type "list",data:=.seq vs.toArray } (.lst (ns.map V.int))) else none) (fun b=>?_) (.inl (.inr ⟨{ cls:=.type "list",data:=.seq vs.toArray },if_pos rfl⟩)) (fun b u z=>?_) (fun b z=>?_) fun _=>hk
  ·by_cases hb:b=a
   ·exact .inr ⟨_,_,if_pos hb⟩
   ·exact .inl (if_neg hb)
  ·by_cases hb:b=a
   ·have z':=(if_pos hb).symm.trans z;cases z';subst hb;exact⟨ha,by rw[List.length_map];exact hl,vs,_,rv,ha⟩
   ·have z':=(if_neg hb).symm.trans z;cases z'
  ·by_cases hb:b=a
   ·exact hb
   ·exact absurd (if_neg hb) z
theorem Zsk{r:PySem.W.OpenSpec}{k:Nat}{q:Program}{loose:List Str}{XP:(Str->Option Value)->Heap->Prop}{YP:World->Heap->Prop}{d:DefRec}{K:Params->PySem.W.Frag}{CX:World->CXT}{sp:World->Sp}{x:Str}{f:List Int->List Int}{ok:List Int->Prop}
  (hdf:d.params.defaults=[]) (hr:ZZ k callerA)
  (hpre:∀args,r.pre args=true->∃ns:List Int,args=[.list (ns.map .int)]/\ns.length<=sizeLine/\ok ns/\r.post args (.list ((f ns).map .int))=true)
  (hY:∀(w:World)(h:Heap),YP w h->(K w.params).In h)
  (F:∀(w:World)(mg:Str->Option Value)(fa:Addr)(h:Heap),(K w.params).In h->h.Ns mainGlobals mg->mg d.name=some (.ref fa) ->
   ∃fd:FuncData,(∀(s:Shared)(u:Value),BindsTo s fd ⟨[u],[]⟩ [(x,u)]) /\
    ∀base:Heap,(K w.params).In base->base.Ns mainGlobals mg->ZaH r.prog w (K w.params) mg base (CX w) k fa fd [x] (sp w))
  (hsp:∀(w:World)(H:Hp)(a:Addr)(ns:List Int),ok ns->Zhs H->SqL (K w.params) H a (ns.map V.int)->sp w [.ref a] H (fun v H'=>∃p,v=.ref p/\H' p=some (.lst ((f ns).map V.int))) fun _ _ _=>False)
  (hCX:∀(w:World)(H:Hp)(s:Shared)(e:Value)(s':Shared),CX w [] H s (fun _ _ _=>False) e s'->False) :
  PySem.W.WalkOS q loose XP YP r d [] (fun f vs=>PySem.call f vs):=by
 intro w s₀ s₁ mg mb G Y fa o pm cd doc dV kV ho hd hcd hD hmg hg args vals as hp hlay hrd hwl hlo;obtain⟨ns,rfl,hl,hok,hpost⟩:=hpre args hp;have KX:=hY w _ Y;obtain⟨fd,hb,hF⟩:=F w mg fa _ KX G.T.g hmg;have arg:∃a vs,vals=[Value.ref a]/\s₁.heap.get? a=some { cls:=.type "list",data:=.seq vs.toArray }/\IntsAre vs ns:=by
  cases hwl with
  |cons w1 w2 =>
   cases w2;cases w1 with
   |list h1 h2=>exact⟨_,_,rfl,h1,Att.ZqZ ns _ h2⟩
 obtain⟨a,vs,rfl,hobj,hints⟩:=arg;refine PySem.W.enter_call (codeAny_mono (Zsj (zs:=f ns) KX G.T.g G.T.b G.T.builtins G.T.nolimit hg hobj hints hl hr hF hb (fun H hO hS=>hsp w H a ns hok hO hS) fun H e s'=>hCX w H s₁ e s') fun res s' hq=>?_);obtain⟨⟨p,its,n,rfl,e,rv⟩,h2,h3,h4⟩:=hq;exact⟨.inl ⟨.ref p,_,_,rfl,fun _=>rfl,.list e rfl rfl (by simpa using readsW_ints rv),hpost,fun z=>Bool.noConfusion (show false=true from z)⟩,h2,h3,h4⟩
end L2
namespace L2
open PySem PySem.Spec PyProof.Rows
section
variable{X:Cx}
def diff(ns:List Int):Nat:=(firstMet (fun i=>ns.getD i 0) ns.length).length
theorem Zsl(hc:X.calm=true):ZbQ X (.type "set") (fun vs H Q=>∃(a:Addr)(ns:List Int),vs=[V.ref a]/\SqL X.K H a (ns.map V.int)/\ns.length < 4000/\∀p S,H p=none->Q (.ref p) (upd H p (.set S (diff ns)))):=by
 intro pins s σ H vs us Q I r h;obtain⟨a,ns,rfl,hs,hl,q⟩:=h;obtain⟨its,rv,pl,_⟩:=I.list hs;rw[Zn.ZfA r];have hlen:=rv.length;rw[List.length_map] at hlen;have hsz:its.toArray.size=ns.length:=by rw[List.size_toArray,←hlen]
 refine call_set_list (I.ok.hd hc) pl.isList (by simpa using rv.ints) (by rw[hsz];have:scanBound=4096:=rfl;omega) fun h' tk hS hk=>?_;rw[hsz] at hS;exact⟨.ref s.heap.objs.size,_,I.laid (t':=tk) (fun b o e=>hk b o (Heap.lt_size e) e) (Nat.le_refl _) (show Zac X.prog X.w _ h' _ (.set _ (diff ns)) from hS),rfl,q _ _ (I.hok.fresh (Nat.le_refl _))⟩
theorem Zsm:ZbQ X (.builtin "len") (fun xs H Q=>∃a S n,xs=[V.ref a]/\H a=some (.set S n)/\Q (.int (n:Nat)) H):=by
 intro pins s σ H xs us Q I r h;obtain⟨a,S,n,rfl,ha,q⟩:=h;rw[Zn.ZfA r];obtain⟨o,es,ep,t,h1,h2,h3,h4,h5,h6,h7,h8⟩:=(show s.heap.SetOf (intKind X.prog X.w) a S n from I.hok a _ ha)
 subst h8;exact call_len_set h1 h2 h3 h7 (by have:scanBound=4096:=rfl;omega) ⟨.int (es.size:Nat),H,I.tok _,⟨_,rfl⟩,q⟩
theorem Zmd(ns:List Int):diff ns=ns.length↔ns.Nodup:=by
 have key:∀n,n<=ns.length->(firstMet (fun i=>ns.getD i 0) n).length<=n/\((firstMet (fun i=>ns.getD i 0) n).length=n↔(ns.take n).Nodup):=by
  intro n;induction n with
  |zero=>intro _;exact⟨Nat.le_refl _,by simp[firstMet_zero]⟩
  |succ n ih =>
   intro hn;obtain⟨ih1,ih2⟩:=ih (by omega);have hm:(List.range n).map (fun i=>ns.getD i 0)=ns.take n:=by
    refine List.ext_getElem? fun i=>?_;rw[List.getElem?_map,List.getElem?_take];by_cases hi:i < n
    ·rw[List.getElem?_range hi,if_pos hi,List.getElem?_eq_getElem (by omega)];show some (ns.getD i 0)=_;rw[List.getD_eq_getElem?_getD,List.getElem?_eq_getElem (by omega)];rfl
    ·rw[List.getElem?_eq_none_iff.mpr (by rw[List.length_range];omega),if_neg hi];rfl
   have hx:ns[n]?=some (ns.getD n 0):=by
    rw[List.getD_eq_getElem?_getD,List.getElem?_eq_getElem (by omega)];rfl
   have ha:(firstMet (fun i=>ns.getD i 0) n).any (·==ns.getD n 0)=decide (ns.getD n 0∈ns.take n):=by
    rw[firstMet_any,hm,Bool.eq_iff_iff,List.any_eq_true,decide_eq_true_eq];exact⟨fun⟨y,hy,e⟩=>(beq_iff_eq.mp e)▸hy,fun z=>⟨_,z,beq_self_eq_true _⟩⟩
   rw[firstMet_succ,step_length,ha,List.take_add_one,hx];by_cases hin:ns.getD n 0∈ns.take n
   ·rw[if_pos (decide_eq_true hin)];refine⟨by omega,fun z=>by omega,fun z=>?_⟩;have:=List.nodup_append.mp z;exact absurd rfl (this.2.2 _ hin _ (by simp))
   ·rw[if_neg (by rw[decide_eq_true_eq];exact hin)];refine⟨by omega,fun z=>?_,fun z=>?_⟩
    ·refine List.nodup_append.mpr ⟨ih2.mp (by omega),by simp,fun a ha' b hb=>?_⟩;have:b=ns.getD n 0:=by simpa using hb
     rw[this];exact fun e=>hin (e▸ha')
    ·have:=ih2.mpr (List.nodup_append.mp z).1;omega
 have:=(key ns.length (Nat.le_refl _)).2;rw[List.take_length] at this;exact this
def Zh2(K:PySem.W.Frag):V->List V->Hp->VK->Prop:=fun x xs H Q=>∃(a:Addr)(ys:List V)(y:V),x=V.ref a/\xs=[y]/\SqL K H a ys/\Zbq y=true/\ys.all Zbq=true/\Q (.int (ys.countP (fun z=>eqV z y):Nat)) H
theorem Zme{x:V}:∀{ys:List V}{its:List Value},Zn ys its->ys.all Zbq=true->its.countP (eqU x)=ys.countP fun z=>eqV z x
 |[],_,r,_=>by
  cases r;rfl
 |y::ys,_,r,f=>by
  cases r with
  |cons q t =>
   rw[List.all_cons,Bool.and_eq_true] at f;rw[List.countP_cons,List.countP_cons,Zme t f.2,Zha q f.1]
theorem Zmf:MtR X "list.count" (Zh2 X.K):=by
 intro pins s σ H x xs v us Q I rx rxs h;obtain⟨a,ys,y,rfl,rfl,hs,fy,fys,q⟩:=h;cases rx;cases rxs with
 |cons ry rt =>
  rename_i uy ut;cases rt;obtain⟨its,rv,⟨⟨cls,dd,data,sl⟩,n,ho,hc,hdn,hd⟩,hlen⟩:=I.list hs;simp only at hc hd;subst hc hd;refine call_meets PySem.F.slot_list_count ⟨_,ho,rfl⟩ PySem.F.entry_list_count (PySem.F.args_list_count_2 _ _)
   (SeqAt.list_countAt a its.toArray n dd sl uy (eqU y)) ⟨ho,fun u' hu'=>Zfz ry fy rv fys u' (by simpa using hu'),?_⟩
  exact⟨.int _,H,I.tok _,⟨_,by rw[show its.toArray.toList=its by simp,Zme rv fys]⟩,q⟩
def Zsn(td ty tx:TE):TE:=fun σ H Q=>td σ H fun x H1=>∃a,x=.ref a/\IsD H1 a/\ty σ H1 fun y H2=>tx σ H2 fun z H3=>∃kvs k,H3 a=some (.dK kvs)/\y=kV k/\kvs.length < sizeLine /\
 (∀v,Zab kvs k=some v->Q v H3)/\(Zab kvs k=none->Q z (upd H3 a (.dK (putK kvs k z))))
variable{pins:List (Addr×Obj)}{σ:St}{H:Hp}{s:Shared}{A:Around}{E:Value->Shared->Prop}{a:Addr}{v:V}{u r:Value}
theorem Zso{kvs:List (Key×V)}{k:Key}{Q:Value->Shared->Prop}(I:Inv X pins σ H s)(e:H a=some (.dK kvs))(ry:RelV (kV k) u)(rv:RelV v r)(hl:kvs.length < sizeLine)
  (h1:∀z,Zab kvs k=some z->∀w' s',Inv X pins σ H s'->RelV z w'->Q w' s') (h2:Zab kvs k=none->∀s',Inv X pins σ (upd H a (.dK (putK kvs k v))) s'->Q r s') :
  wpAny (model X.prog X.w) A (call (.builtin "dict.setdefault") [.ref a,u,r]) Q E s:=by
 obtain⟨z,hd,vs,rel,dd⟩:=ZkQ I.hok e;have hz:vs.length<=sizeLine:=by rw[←rel.length];exact z
 have hl':(putK kvs k v).length<=sizeLine:=by have:=Zhm kvs k v;omega
 have rl:=rel.val k;refine call_meetsIn PySem.F.slot_dict_setdefault dd.typeIs PySem.F.entry_dict_setdefault (PySem.F.args_dict_setdefault_3 _ _ _) (kt_meets_setdefault (ZaG X.prog X.w) a (Zcr ry) hd r)
  ⟨vs,dd,hz,fun w hw=>?_,fun hn h' dd' hs=>?_⟩
 ·rw[hw] at rl;cases e1:Zab kvs k with
  |none=>rw[e1] at rl;exact rl.elim
  |some z=>rw[e1] at rl;exact h1 z e1 _ _ (I.tok _) rl
 ·rw[hn] at rl;have e1:Zab kvs k=none:=by
   cases e1:Zab kvs k with
   |none=>rfl
   |some z=>rw[e1] at rl;exact rl.elim
  have he:∃q,h'.get? a=some q:=let ⟨q,_,_,hq,_⟩:=dd';⟨q,hq⟩;exact h2 e1 _ (Zho I (by rw[e];exact True.intro) hs he (ZkR hl' hd (rel.put k rv) dd'))
end
section
variable{X:Cx}{o e f:Expr}{apos cpos:Pos}{td ty tx:TE}
theorem Zsp(ho:PE X o td)(he:PE X e ty)(hf:PE X f tx)(m:M2 X o "setdefault" apos e f cpos):PE X (.Call (.Attribute o "setdefault" apos) [e,f] [] cpos) (Zsn td ty tx):=by
 intro pins s σ H Q I h;refine wpAny_Call_method m.base m.few m.line PySem.F.plainAttrs_dict PySem.F.slot_dict_setdefault PySem.F.type_dict_setdefault (thn (ho pins s σ H _ I h) fun u s1 ⟨x,H1,I1,rx,a,ex,d,q1⟩=>?_);subst ex;obtain rfl:u=Value.ref a:=rx;obtain⟨t1,t2,_⟩:=ZkU I1 d;refine⟨t1,t2,?_⟩;rw[m.trees];refine Calls.callWith_builtin rfl (Calls.evalArgs_plain (Calls.spliced_cons (thn (he pins s1 σ H1 _ I1 q1) fun iv s2 ⟨y,H2,I2,ry,q2⟩ =>
  Calls.spliced_cons (thn (hf pins s2 σ H2 _ I2 q2) fun fv s3 ⟨z,H3,I3,rz,kvs,k,g,ey,hl,q3,q4⟩=>Calls.spliced_nil ?_))))
 subst ey;exact Zso I3 g ry rz hl (fun z' e' w' s' I' rw'=>⟨_,H3,I',rw',q3 z' e'⟩) fun e' s' I'=>⟨_,_,I',rz,q4 e'⟩
end
end L2
namespace Tp
open PySem L2
variable{P:Program}{w:World}{K:PySem.W.Frag}{mg:Str->Option Value}{base:Heap}{f C CL CM:Addr}
def top(i:Nat):Stmt:=PySem.Challenge.pw_toldtale_s01_answers.main.body.getD i (.Pass ⟨0,0,0,0⟩)
abbrev Zh3:Stmt:=top 11
abbrev Zh4:Stmt:=top 12
abbrev Zh5:Stmt:=top 13
abbrev Zh6:Stmt:=top 14
abbrev Zh7:Stmt:=top 15
abbrev Zh8:Stmt:=top 16
abbrev Zh9:Stmt:=top 17
abbrev Zf2:Stmt:=top 18
abbrev Zia:Stmt:=top 19
abbrev Zib:Stmt:=top 20
abbrev iV(b:Nat):V:=.int (b:Int)
def GI(mg:Str->Option Value)(x:Str)(i:Int):Prop:=∃t,mg x=some (.int i t)
def GS(mg:Str->Option Value)(x y:Str):Prop:=∃t,mg x=some (.str y t)
section
variable{X:Cx}{x y:Str}{i:Int}{pos:Pos}
theorem Zu(h:GI X.mg x i)(hg:Gl X x:=by rfl)(hd:(x==("__debug__":Str))=false:=by decide):PE X (.Name x pos) (tC (.int i)):=by
 obtain⟨t,e⟩:=h;exact ZdP hg e ⟨t,rfl⟩ hd
theorem Zmg(h:GS X.mg x y)(hg:Gl X x:=by rfl)(hd:(x==("__debug__":Str))=false:=by decide):PE X (.Name x pos) (tC (.str y)):=by
 obtain⟨t,e⟩:=h;exact ZdP hg e ⟨t,rfl⟩ hd
end
section
def ZbV(p:Nat->Bool):Sp:=fun vs H Q _=>∃c:Nat,vs=[iV c]/\Q (.bl (p c)) H
theorem Zsq:Zo ["code"] ["code"] (Zi Zh3):=⟨rfl,rfl,rfl,by decide +kernel,rfl,by decide +kernel,by decide +kernel⟩
theorem Zsr(D:Zj K mg "is_letter" Zh3 f):Can P w K mg base CX0 1 "is_letter" ["code"] (ZbV Kgf1.isSmall):=by
 refine D.can Zsq (fun _ _ _ _ _ _ us hl=>match us,hl with|[_],_=>rfl) (fun vs H Q E h=>?_) (fun cdv A outer s H vs Q E hr h=>?_)
 ·obtain⟨c,rfl,_⟩:=h;rfl
 ·obtain⟨c,rfl,k⟩:=h;refine⟨_,Zh (Zm (Zg4 ZbR ZbR Zr (pv 0) Zr)),?_⟩;refine⟨_,rfl,_,_,rfl,rfl,_,rfl,ZfI (fun h1=>⟨_,_,rfl,rfl,?_⟩) (fun h1=>?_)⟩
  ·have e:decide ((c:Int)<=122)=Kgf1.isSmall c:=Bool.eq_iff_iff.mpr (by simp only[decide_eq_true_eq,Kgf1.isSmall,Bool.and_eq_true] at h1 ⊢;omega);show Q (.bl (decide ((c:Int)<=122))) H;rw[e];exact k
  ·have e:Kgf1.isSmall c=false:=Bool.eq_false_iff.mpr fun z=>by simp only[decide_eq_true_eq,Kgf1.isSmall,Bool.and_eq_true] at h1 z;omega
   show Q (.bl false) H;rw[e] at k;exact k
end
end Tp
namespace Tp
open PySem L2
variable{P:Program}{w:World}{K:PySem.W.Frag}{mg:Str->Option Value}{base:Heap}{f C CL CM:Addr}
section
theorem Zss:Zo ["code"] ["code"] (Zi Zh4):=⟨rfl,rfl,rfl,by decide +kernel,rfl,by decide +kernel,by decide +kernel⟩
theorem Zst(D:Zj K mg "is_digit" Zh4 f):Can P w K mg base CX0 1 "is_digit" ["code"] (ZbV Kgf1.isDigit):=by
 refine D.can Zss (fun _ _ _ _ _ _ us hl=>match us,hl with|[_],_=>rfl) (fun vs H Q E h=>?_) (fun cdv A outer s H vs Q E hr h=>?_)
 ·obtain⟨c,rfl,_⟩:=h;rfl
 ·obtain⟨c,rfl,k⟩:=h;refine⟨_,Zh (Zm (Zg4 ZbR ZbR Zr (pv 0) Zr)),?_⟩;refine⟨_,rfl,_,_,rfl,rfl,_,rfl,ZfI (fun h1=>⟨_,_,rfl,rfl,?_⟩) (fun h1=>?_)⟩
  ·have e:decide ((c:Int)<=57)=Kgf1.isDigit c:=Bool.eq_iff_iff.mpr (by simp only[decide_eq_true_eq,Kgf1.isDigit,Bool.and_eq_true] at h1 ⊢;omega);show Q (.bl (decide ((c:Int)<=57))) H;rw[e];exact k
  ·have e:Kgf1.isDigit c=false:=Bool.eq_false_iff.mpr fun z=>by simp only[decide_eq_true_eq,Kgf1.isDigit,Bool.and_eq_true] at h1 z;omega
   show Q (.bl false) H;rw[e] at k;exact k
theorem Zsu:Zo ["code"] ["code"] (Zi Zh5):=⟨rfl,rfl,rfl,by decide +kernel,rfl,by decide +kernel,by decide +kernel⟩
def Zcv(c:Nat):Bool:=decide (65<=c)&&decide (c<=90)
theorem Zsv(D:Zj K mg "is_big_letter" Zh5 f):Can P w K mg base CX0 1 "is_big_letter" ["code"] (ZbV Zcv):=by
 refine D.can Zsu (fun _ _ _ _ _ _ us hl=>match us,hl with|[_],_=>rfl) (fun vs H Q E h=>?_) (fun cdv A outer s H vs Q E hr h=>?_)
 ·obtain⟨c,rfl,_⟩:=h;rfl
 ·obtain⟨c,rfl,k⟩:=h;refine⟨_,Zh (Zm (Zg4 ZbR ZbR Zr (pv 0) Zr)),?_⟩;refine⟨_,rfl,_,_,rfl,rfl,_,rfl,ZfI (fun h1=>⟨_,_,rfl,rfl,?_⟩) (fun h1=>?_)⟩
  ·have e:decide ((c:Int)<=90)=Zcv c:=Bool.eq_iff_iff.mpr (by simp only[decide_eq_true_eq,Zcv,Bool.and_eq_true] at h1 ⊢;omega);show Q (.bl (decide ((c:Int)<=90))) H;rw[e];exact k
  ·have e:Zcv c=false:=Bool.eq_false_iff.mpr fun z=>by simp only[decide_eq_true_eq,Zcv,Bool.and_eq_true] at h1 z;omega
   show Q (.bl false) H;rw[e] at k;exact k
def Ze1:Str:="abcdefghijklmnopqrstuvwxyz"
def Ze2:Str:="0123456789"
theorem Zsw:∀k:Nat,k < 26->Ze1.cps.toList[k]?=some (97+k):=by decide +kernel
theorem Zsx:∀k:Nat,k < 10->Ze2.cps.toList[k]?=some (48+k):=by decide +kernel
def Zmh:Sp:=fun vs H Q _=>∃c:Nat,vs=[iV c]/\Tl.ZaB c=true/\Q (.str ⟨#[c]⟩) H
theorem Zsy:Zo ["code"] ["code"] (Zi Zh6):=⟨rfl,rfl,rfl,by decide +kernel,rfl,by decide +kernel,by decide +kernel⟩
theorem Zsz(D:Zj K mg "name_sign" Zh6 f)(hL:GS mg "LETTERS" Ze1)(hD:GS mg "DIGITS" Ze2)(F1:Can P w K mg base CX0 1 "is_letter" ["code"] (ZbV Kgf1.isSmall)):Can P w K mg base CX0 2 "name_sign" ["code"] Zmh:=by
 refine D.can Zsy (fun _ _ _ _ _ _ us hl=>match us,hl with|[_],_=>rfl) (fun vs H Q E h=>?_) (fun cdv A outer s H vs Q E hr h=>?_)
 ·obtain⟨c,rfl,_⟩:=h;rfl
 ·obtain⟨c,rfl,hc,k⟩:=h;refine⟨_,Ze (Zy (Zam (Zp F1 hr Zs (Za (pv 0) Zb))) (Zh (Zm (ZG ZkB (Zmg hL) (ZY Zb5 (pv 0) Zr) (fun _ _=>rfl)))) ZD)
   (Zh (Zm (ZG ZkB (Zmg hD) (ZY Zb5 (pv 0) Zr) (fun _ _=>rfl)))),?_⟩
  refine⟨_,rfl,c,rfl,_,rfl,ZfI (fun h1=>?_) (fun h1=>?_)⟩
  ·have hb:97<=c/\c<=122:=by simpa[Kgf1.isSmall] using h1
   obtain⟨j,rfl⟩:∃j,c=97+j:=⟨c - 97,by omega⟩
   refine⟨_,rfl,_,_,rfl,rfl,Ze1,_,97+j,rfl,rfl,by decide +kernel,?_,k⟩;have e:((97+j:Nat):Int) - 97=(j:Int):=by omega
   show atI Ze1.cps.toList (((97+j:Nat):Int) - 97)=_;rw[e];exact ZF (Zsw j (by omega))
  ·have hd:Kgf1.isDigit c=true:=by
    have hc':(Kgf1.isSmall c||Kgf1.isDigit c)=true:=hc;rw[Bool.eq_false_iff.mpr h1,Bool.false_or] at hc';exact hc'
   have hb:48<=c/\c<=57:=by simpa[Kgf1.isDigit] using hd
   obtain⟨j,rfl⟩:∃j,c=48+j:=⟨c - 48,by omega⟩
   refine⟨_,rfl,_,_,rfl,rfl,Ze2,_,48+j,rfl,rfl,by decide +kernel,?_,k⟩;have e:((48+j:Nat):Int) - 48=(j:Int):=by omega
   show atI Ze2.cps.toList (((48+j:Nat):Int) - 48)=_;rw[e];exact ZF (Zsx j (by omega))
end
def bmV:List Value:=[.type "ValueError",.type "Exception",.type "BaseException",.type "object"]
structure NT(K:PySem.W.Frag)(mg:Str->Option Value)(C:Addr):Prop where
 mg:mg "NoTale"=some (.ref C)
 ex:Exc K C bmV "ValueError.__new__"
def Zmi(C:Addr)(E:XK):TS:=fun _ _ H=>E (.ref C) none H
theorem Zbd{X:Cx}{C:Addr}{E:XK}{msg:Str}{np cpos pos cp:Pos}{j:Nat}(T:Throws X E)(N:NT X.K X.mg C)(hg:Gl X "NoTale":=by rfl)(he:starEach [.Constant (.str msg) j cp] X.env=(false,eval (.Constant (.str msg) j cp) X.env)::starEach [] X.env:=by rfl)(hpl:(backTo cpos (starEach [] X.env)).any (·.1)=false:=by rfl) :
  PS X (.Raise (some (.Call (.Name "NoTale" np) [.Constant (.str msg) j cp] [] cpos)) none pos) (Zmi C E):=fun pins s σ H D I h =>
 Zma T N.ex PySem.F.excBase_ValueError hg N.mg (Za Zad Zb he) (by decide) he hpl pins s σ H D I ⟨by show 1<=sizeLine;decide,h⟩
theorem ZbK{c:TT}{tb:TS}{D:Ends}{σ:St}{H:Hp}(W:Nat->St->Hp->Prop)(Ex:St->Hp->Prop)(h0:∃m,W m σ H)(hx:∀σ H,Ex σ H->D.nx σ H)
  (hs:(∀σ H,Ex σ H->D.nx σ H)->∀m σ H,W m σ H->c σ H fun b H1=>if b=true then∃N:St->Hp->Prop,(∀σ' H',N σ' H'->∃m',m' < m/\W m' σ' H')/\tb { D with nx:=N,ct:=N,bk:=D.nx } σ H1 else D.nx σ H1):Zj8 c tb D σ H:=⟨W,h0,hs hx⟩
theorem Zee{W:Nat->St->Hp->Prop}{m:Nat}{F:(St->Hp->Prop)->Prop}{B:Prop}(h:F fun σ' H'=>∃m',m' < m/\W m' σ' H'):if true=true then∃N:St->Hp->Prop,(∀σ' H',N σ' H'->∃m',m' < m/\W m' σ' H')/\F N else B:=by
 rw[if_pos rfl];exact⟨_,fun _ _ z=>z,h⟩
theorem ifD{p A B:Prop}[Decidable p](hp:p)(h:A):if decide p=true then A else B:=by
 rw[if_pos (decide_eq_true hp)];exact h
theorem ifN{p A B:Prop}[Decidable p](hp:¬p)(h:B):if decide p=true then A else B:=by
 rw[if_neg (by rw[decide_eq_true_eq];exact hp)];exact h
theorem ZbW{p A B:Prop}[Decidable p](hp:¬p)(h:A):if(!decide p)=true then A else B:=by
 rw[decide_eq_false hp];exact h
theorem Zbt{p A B:Prop}[Decidable p](hp:p)(h:B):if(!decide p)=true then A else B:=by
 rw[decide_eq_true hp];exact h
theorem ZcY{W:Nat->St->Hp->Prop}{m:Nat}{F:(St->Hp->Prop)->Prop}{B:Prop}{b:Bool}(hb:b=true)(h:F fun σ' H'=>∃m',m' < m/\W m' σ' H'):if b=true then∃N:St->Hp->Prop,(∀σ' H',N σ' H'->∃m',m' < m/\W m' σ' H')/\F N else B:=by
 subst hb;exact Zee h
theorem Zau{c:Nat}{z:Int}:(iV c=V.int z)↔(c:Int)=z:=⟨V.int.inj,congrArg V.int⟩
theorem ifB{b:Bool}{A B:Prop}(hp:b=true)(h:A):if b=true then A else B:=by
 rw[if_pos hp];exact h
theorem ifF{b:Bool}{A B:Prop}(hp:b=false)(h:B):if b=true then A else B:=by
 rw[hp,if_neg Bool.false_ne_true];exact h
section
theorem Zbe{bs:List Nat}{i:Nat}{c:Nat}(h:bs[i]?=some c):(bs.map iV)[i]?=some (iV c):=by
 rw[List.getElem?_map,h];rfl
def Zav(bs:List Nat)(b:Nat):Nat:=((bs.drop b).takeWhile Tl.ZaB).length
theorem Zic{p:Nat->Bool}:∀{l:List Nat}{i:Nat}{c:Nat},i<=(l.takeWhile p).length->l[i]?=some c->(i < (l.takeWhile p).length↔p c=true)
 |[],i,c,_,h=>by simp at h
 |x::r,0,c,_,h=>by
  have e:x=c:=by simpa using h
  subst e;rw[List.takeWhile_cons];cases p x<;>simp
 |x::r,i+1,c,hi,h=>by
  rw[List.takeWhile_cons] at hi ⊢;cases q:p x with
  |false=>rw[q] at hi;simp at hi
  |true =>
   rw[q] at hi;have:=Zic (p:=p) (l:=r) (i:=i) (c:=c) (by simpa using hi) (by simpa using h);simpa using this
def Zmj(K:PySem.W.Frag)(C:Addr):Sp:=fun vs H Q E=>∃(a:Addr)(bs:List Nat)(b:Nat),vs=[.ref a,iV b]/\SqL K H a (bs.map iV)/\b<=bs.length/\(if 12 < Zav bs b then E (.ref C) none H else Q (iV (b+Zav bs b)) H)
theorem Zid:Zo ["text","begin","end"] ["text","begin"] (Zi Zh7):=⟨rfl,rfl,rfl,by decide +kernel,rfl,by decide +kernel,by decide +kernel⟩
theorem ZsA(D:Zj K mg "end_of_name" Zh7 f)(NE:NT K mg C)(hlen:mg "len"=none)(hM:GI mg "MOST_NAME_SIGNS" 12)
  (F1:Can P w K mg base CX0 1 "is_letter" ["code"] (ZbV Kgf1.isSmall)) (F2:Can P w K mg base CX0 1 "is_digit" ["code"] (ZbV Kgf1.isDigit)) :
  Can P w K mg base (CX1 P w) 2 "end_of_name" ["text","begin"] (Zmj K C):=by
 refine D.Zap Zid (fun _ _ _ _ _ _ us hl=>match us,hl with|[_,_],_=>rfl) (fun vs H Q E h=>?_) (fun cdv A outer s H vs Q E hr h=>?_)
 ·obtain⟨a,bs,b,rfl,_⟩:=h;rfl
 ·obtain⟨a,bs,b,rfl,hS,hb,k⟩:=h;refine⟨_,Ze (Zx (i:=2) Zid.nd rfl (Or.inl rfl) (pv 1))
   (Ze (ZbB (Throws.own Zt) (ZdR (ZC Zcq (pv 2) (ZN Z0 (by rfl) hlen PySem.boot_len (Za (pv 0) Zb)) (Zz _))
     (ZdQ (ZeA (Zam (Zp F1 hr Zs (Za (ZG ZO (pv 0) (pv 2) (fun _ _=>rfl)) Zb))) (Zfq (Zam (Zp F2 hr Zs (Za (ZG ZO (pv 0) (pv 2) (fun _ _=>rfl)) Zb))))).pt)).pt
    (Zh (ZbP (i:=2) Zid.nd rfl (Or.inl rfl) Zr ZcK)))
   (Ze (Zy (ZC ZdT (ZY Zb5 (pv 2) (pv 1)) (Zu hM) (Zz _)) (Zh (Zbd Zt NE)) ZD)
   (Zh (Zm (pv 2))))),?_⟩
  refine⟨_,rfl,?_⟩;have hle:Zav bs b<=(bs.drop b).length:=(List.takeWhile_prefix _).length_le;rw[List.length_drop] at hle;have at_:∀i,i<=Zav bs b->∀c,bs[b+i]?=some c->(i < Zav bs b↔Tl.ZaB c=true):=fun i hi c hc=>Zic hi (by rw[List.getElem?_drop];exact hc);refine ZbK (fun m σ H'=>∃e:Nat,m=bs.length - e/\H'=H/\σ=[some (.ref a),some (iV b),some (iV e)]/\b<=e/\e<=b+Zav bs b) (fun σ H'=>H'=H/\σ=[some (.ref a),some (iV b),some (iV (b+Zav bs b))]) ⟨_,b,rfl,rfl,rfl,Nat.le_refl _,Nat.le_add_right _ _⟩ ?_ ?_
  ·rintro σ H' ⟨rfl,rfl⟩;refine⟨_,rfl,_,rfl,_,_,rfl,rfl,_,_,rfl,rfl,_,rfl,?_⟩;by_cases hc:12 < Zav bs b
   ·rw[if_pos hc] at k;exact ifD (by omega) k
   ·rw[if_neg hc] at k;exact ifN (by omega) ⟨_,rfl,k⟩
  ·rintro exit m σ H' ⟨e,rfl,rfl,rfl,h1,h2⟩;refine⟨_,rfl,_,rfl,a,_,rfl,.inl hS,_,_,rfl,rfl,_,rfl,?_⟩;by_cases he:e < bs.length
   ·refine ifD (by rw[List.length_map];omega) ?_;obtain⟨c,hc⟩:∃c,bs[e]?=some c:=⟨bs[e],List.getElem?_eq_getElem he⟩
    have hit:=ZF (Zbe hc);have iff:=at_ (e - b) (by omega) c (by rw[show b+(e - b)=e by omega];exact hc);have ec:Tl.ZaB c=(Kgf1.isSmall c||Kgf1.isDigit c):=rfl;refine⟨_,rfl,_,rfl,a,_,_,_,rfl,rfl,hS,hit,c,rfl,_,rfl,?_⟩;cases q1:Kgf1.isSmall c with
    |true =>
     have hlt:=iff.mpr (by rw[ec,q1];rfl);refine Zar (Zee ?_);exact⟨_,rfl,_,_,rfl,rfl,_,by show bs.length - (e+1) < bs.length - e;omega,e+1,rfl,rfl,rfl,by omega,by omega⟩
    |false =>
     refine ZW ⟨_,rfl,_,rfl,a,_,_,_,rfl,rfl,hS,hit,c,rfl,_,rfl,?_⟩;cases q2:Kgf1.isDigit c with
     |true =>
      have hlt:=iff.mpr (by rw[ec,q2,Bool.or_true]);refine Zee ?_;exact⟨_,rfl,_,_,rfl,rfl,_,by show bs.length - (e+1) < bs.length - e;omega,e+1,rfl,rfl,rfl,by omega,by omega⟩
     |false =>
      have hn:¬(e - b < Zav bs b):=fun z=>by
       have:=iff.mp z;rw[ec,q1,q2] at this;cases this
      have e2:e=b+Zav bs b:=by omega
      exact ZW (exit _ _ ⟨rfl,by rw[e2]⟩)
   ·have e2:e=b+Zav bs b:=by omega
    exact ifN (by rw[List.length_map];omega) (ZW (exit _ _ ⟨rfl,by rw[e2]⟩))
end
section
def Z1(bs:List Nat)(b:Nat):Nat:=((bs.drop (b+1)).takeWhile Tl.ZaW).length
def ZbX(bs:List Nat)(b:Nat):Prop:=255 < Z1 bs b\/((bs.drop (b+1)).drop (Z1 bs b)).head?≠some 34
instance (bs:List Nat) (b:Nat):Decidable (ZbX bs b):=by unfold ZbX;infer_instance
theorem Zie(bs:List Nat)(b n:Nat):((bs.drop (b+1)).drop n).head?=bs[b+1+n]?:=by
 rw[List.drop_drop,List.head?_drop]
def Zmk(K:PySem.W.Frag)(C:Addr):Sp:=fun vs H Q E=>∃(a:Addr)(bs:List Nat)(b:Nat),vs=[.ref a,iV b]/\SqL K H a (bs.map iV)/\b < bs.length/\(if ZbX bs b then E (.ref C) none H else Q (iV (b+Z1 bs b+2)) H)
theorem Zif:Zo ["text","begin","end"] ["text","begin"] (Zi Zh8):=⟨rfl,rfl,rfl,by decide +kernel,rfl,by decide +kernel,by decide +kernel⟩
theorem ZsB(D:Zj K mg "end_of_string" Zh8 f)(NE:NT K mg C)(hlen:mg "len"=none)(hM:GI mg "MOST_STRING_SIGNS" 255)(hQ:GI mg "QUOTE" 34)(hB:GI mg "BLANK" 32)(hL:GI mg "LAST_CODE" 126) :
  Can P w K mg base (CX1 P w) 1 "end_of_string" ["text","begin"] (Zmk K C):=by
 refine D.Zap Zif (fun _ _ _ _ _ _ us hl=>match us,hl with|[_,_],_=>rfl) (fun vs H Q E h=>?_) (fun cdv A outer s H vs Q E hr h=>?_)
 ·obtain⟨a,bs,b,rfl,_⟩:=h;rfl
 ·obtain⟨a,bs,b,rfl,hS,hb,k⟩:=h;refine⟨_,Ze (Zx (i:=2) Zif.nd rfl (Or.inl rfl) (ZY ZbD (pv 1) Zr))
   (Ze (ZbB (Throws.own Zt) (ZdR (ZC Zcq (pv 2) (ZN Z0 (by rfl) hlen PySem.boot_len (Za (pv 0) Zb)) (Zz _))
     (ZdQ (ZC Zdg (ZG ZO (pv 0) (pv 2) (fun _ _=>rfl)) (Zu hQ) (Zz _)))).pt
    (Ze (Zy (ZcI (Zkh ZbR ZbR (Zu hB) (ZG ZO (pv 0) (pv 2) (fun _ _=>rfl)) (Zu hL))) (Zh (Zbd Zt NE)) ZD)
     (Zh (ZbP (i:=2) Zif.nd rfl (Or.inl rfl) Zr ZcK))))
   (Ze (Zy (ZC Z9 (pv 2) (ZN Z0 (by rfl) hlen PySem.boot_len (Za (pv 0) Zb)) (Zz _)) (Zh (Zbd Zt NE)) ZD)
   (Ze (Zy (ZC ZdT (ZY Zb5 (ZY Zb5 (pv 2) (pv 1)) Zr) (Zu hM) (Zz _)) (Zh (Zbd Zt NE)) ZD)
   (Zh (Zm (ZY ZbD (pv 2) Zr)))))),?_⟩
  have hle:Z1 bs b<=(bs.drop (b+1)).length:=(List.takeWhile_prefix _).length_le;rw[List.length_drop] at hle;have at_:∀i,i<=Z1 bs b->∀c,bs[b+1+i]?=some c->(i < Z1 bs b↔Tl.ZaW c=true):=fun i hi c hc=>Zic hi (by rw[List.getElem?_drop];exact hc);have bad:∀c,bs[b+1+Z1 bs b]?=c->c≠some 34->ZbX bs b:=fun c e n=>.inr (by rw[Zie,e];exact n);refine⟨_,rfl,_,_,rfl,rfl,?_⟩;refine ZbK (fun m σ H'=>∃e:Nat,m=bs.length - e/\H'=H/\σ=[some (.ref a),some (iV b),some (iV e)]/\b+1<=e/\e<=b+1+Z1 bs b)
   (fun σ H'=>H'=H/\σ=[some (.ref a),some (iV b),some (iV (b+1+Z1 bs b))]/\(b+1+Z1 bs b=bs.length\/bs[b+1+Z1 bs b]?=some 34)) ⟨_,b+1,rfl,rfl,rfl,Nat.le_refl _,Nat.le_add_right _ _⟩ ?_ ?_
  ·rintro σ H' ⟨rfl,rfl,hx⟩;refine⟨_,rfl,_,rfl,a,_,rfl,.inl hS,rfl,_,rfl,?_⟩;rcases hx with hx|hx
   ·have hbad:=bad none (List.getElem?_eq_none_iff.mpr (by omega)) (by simp);rw[if_pos hbad] at k;exact ifD (Zau.mpr (by rw[List.length_map];omega)) k
   ·have hlt:b+1+Z1 bs b < bs.length:=(List.getElem?_eq_some_iff.mp hx).1;refine ifN (fun z=>by have:=Zau.mp z;rw[List.length_map] at this;omega) ?_;refine⟨_,rfl,_,rfl,_,_,rfl,rfl,_,_,rfl,rfl,_,_,rfl,rfl,_,rfl,?_⟩;by_cases hc:255 < Z1 bs b
    ·rw[if_pos (.inl hc)] at k;exact ifD (by omega) k
    ·have hg:¬ZbX bs b:=fun z=>z.elim hc fun q=>q (by rw[Zie];exact hx);rw[if_neg hg] at k;refine ifN (by omega) ⟨_,rfl,_,_,rfl,rfl,?_⟩;have e:((b+1+Z1 bs b:Nat):Int)+1=((b+Z1 bs b+2:Nat):Int):=by omega
     show Q (.int (((b+1+Z1 bs b:Nat):Int)+1)) H';rw[e];exact k
  ·rintro exit m σ H' ⟨e,rfl,rfl,rfl,h1,h2⟩;refine⟨_,rfl,_,rfl,a,_,rfl,.inl hS,_,_,rfl,rfl,_,rfl,?_⟩;by_cases he:e < bs.length
   ·refine ifD (by rw[List.length_map];omega) ?_;obtain⟨c,hc⟩:∃c,bs[e]?=some c:=⟨bs[e],List.getElem?_eq_getElem he⟩
    have hit:=ZF (Zbe hc);have iff:=at_ (e - (b+1)) (by omega) c (by rw[show b+1+(e - (b+1))=e by omega];exact hc);refine⟨_,rfl,_,rfl,a,_,_,_,rfl,rfl,hS,hit,rfl,_,rfl,?_⟩;by_cases hq:c=34
    ·have hn:¬(e - (b+1) < Z1 bs b):=fun z=>by
      have:=iff.mp z;rw[hq] at this;exact absurd this (by decide)
     have e2:e=b+1+Z1 bs b:=by omega
     refine Zbt (Zau.mpr (by omega)) ?_;exact exit _ _ ⟨rfl,by rw[e2],.inr (by rw[←e2,hc,hq])⟩
    ·refine ZcY (by rw[decide_eq_false fun z=>hq (by have:=Zau.mp z;omega)];rfl) ?_;refine⟨_,rfl,_,rfl,a,_,_,_,rfl,rfl,hS,hit,_,_,rfl,rfl,_,rfl,?_⟩;by_cases h32:32<=c
     ·refine ifD (by omega) ⟨_,_,rfl,rfl,_,rfl,?_⟩;by_cases h126:c<=126
      ·have hlt:=iff.mpr (by show(decide (32<=c)&&decide (c<=126)&&c != 34)=true;simp[h32,h126,hq]);refine Zbt (by omega) ?_;exact⟨_,rfl,_,_,rfl,rfl,_,by show bs.length - (e+1) < bs.length - e;omega,e+1,rfl,rfl,rfl,by omega,by omega⟩
      ·have hn:¬(e - (b+1) < Z1 bs b):=fun z=>by
        have:=iff.mp z;simp[Tl.ZaW,h126] at this
       have e2:e=b+1+Z1 bs b:=by omega
       have hbad:=bad (some c) (by rw[←e2];exact hc) (fun z=>hq (Option.some.inj z));rw[if_pos hbad] at k;exact ZbW (by omega) k
     ·have hn:¬(e - (b+1) < Z1 bs b):=fun z=>by
       have:=iff.mp z;simp[Tl.ZaW,h32] at this
      have e2:e=b+1+Z1 bs b:=by omega
      have hbad:=bad (some c) (by rw[←e2];exact hc) (fun z=>hq (Option.some.inj z));rw[if_pos hbad] at k;exact ifN (by omega) ⟨_,rfl,ifB rfl k⟩
   ·have e2:e=b+1+Z1 bs b:=by omega
    exact ifN (by rw[List.length_map];omega) (ZW (exit _ _ ⟨rfl,by rw[e2],.inl (by omega)⟩))
end
structure Zef(K:PySem.W.Frag)(a:Addr)(kvs:List (Key×V)):Prop where
 ns:(a==sysModules)=false
 at_:∀(P:Program)(w:World)(h:Heap),K.In h->∃vs,KV kvs vs/\h.DictOf (ZaG P w) a vs
def ZsC(ty:TE)(kvs:List (Key×V)):TE:=fun σ H Q=>ty σ H fun y H1=>∃k,y=kV k/\Q (.bl (Zab kvs k).isSome) H1
def ZsD(ty:TE)(kvs:List (Key×V)):TE:=fun σ H Q=>ty σ H fun y H1=>∃k v,y=kV k/\Zab kvs k=some v/\Q v H1
section
variable{X:Cx}{o i:Expr}{ty:TE}{a:Addr}{kvs:List (Key×V)}{pos:Pos}
theorem ZsE(d:Zef X.K a kvs)(hi:PE X i ty)(ho:PE X o (tC (.ref a))):PC X .In i o (ZsC ty kvs):=by
 intro pins s σ H Q I h;refine thn (hi pins s σ H _ I h) fun iv s1 ⟨y,H1,I1,ry,k,ey,q1⟩=>thn (ho pins s1 σ H1 (fun v H2=>v=.ref a/\H2=H1) I1 ⟨rfl,rfl⟩) fun u s2 ⟨x,H2,I2,rx,ex,eH⟩=>?_;subst ex ey eH;obtain rfl:u=Value.ref a:=rx;obtain⟨vs,rel,dd⟩:=d.at_ X.prog X.w s2.heap I2.kIn;refine wpAny_in_of (Zcr ry) d.ns dd.mapOf ?_;rw[←(rel.val k).Zd0];exact⟨.bl _,_,I2.tok _,rfl,q1⟩
theorem Zml(d:Zef X.K a kvs)(hi:PE X i ty)(ho:PE X o (tC (.ref a)))(hs:Zhp i):PE X (.Subscript o i pos) (ZsD ty kvs):=by
 intro pins s σ H Q I h;refine ZkS PySem.F.slot_dict_getitem.lookup hs (thn (ho pins s σ H (fun v H2=>v=.ref a/\H2=H) I ⟨rfl,rfl⟩) fun u s1 ⟨x,H1,I1,rx,ex,eH⟩=>?_);subst ex eH;obtain rfl:u=Value.ref a:=rx;refine thn (hi pins s1 σ H1 _ I1 h) fun iv s2 ⟨y,H2,I2,ry,k,v,ey,ev,q2⟩=>?_;subst ey;obtain⟨vs,rel,dd⟩:=d.at_ X.prog X.w s2.heap I2.kIn;obtain⟨w',hw,rw'⟩:=ZaO.some_of (v:=v) (o:=valueAt vs k) (by rw[←ev];exact rel.val k);exact⟨dd.typeIs,wpAny_getItem_of (Zcr ry) dd.mapOf hw ⟨v,H2,I2.tok _,rw',q2⟩⟩
end
def Zeg:List (Key×V):=[(.inl 61,.str "="),(.inl 59,.str ";")]
theorem ZsF{K:PySem.W.Frag}{a:Addr}{t1 u1 t2 u2:Tok}{n:Nat}(hn:(a==sysModules)=false)(l:K.lookup a=some ⟨.type "dict",none,.dict #[⟨61,.int 61 t1,.str "=" u1⟩,⟨59,.int 59 t2,.str ";" u2⟩] n,#[]⟩):Zef K a Zeg:=by
 refine⟨hn,fun P w h kin=>⟨[(.inl 61,.str "=" u1),(.inl 59,.str ";" u2)],.cons ⟨rfl,u1,rfl⟩ (.cons ⟨rfl,u2,rfl⟩ .nil),_,_,_,kin a _ l,⟨rfl,rfl,rfl⟩,rfl,?_,?_,(show([.inl 61,.inl 59]:List Key).Nodup by decide)⟩⟩
 ·intro e he;rcases Array.mem_toArray.mp he with _|⟨_,z⟩
  ·exact⟨.inl 61,Zey 61 t1,(show(61:Int)=hashInt 61 by decide)⟩
  ·rcases z with _|⟨_,z⟩
   ·exact⟨.inl 59,Zey 59 t2,(show(59:Int)=hashInt 59 by decide)⟩
   ·cases z
 ·exact .cons (Zey 61 t1) rfl (.cons (Zey 59 t2) rfl .nil)
section
def Zdy(bs:List Nat)(b c:Nat):Option Nat :=
 if Kgf1.isSmall c=true then(if 12 < Zav bs b then none else some (b+Zav bs b))
 else if c=34 then(if ZbX bs b then none else some (b+Z1 bs b+2))
 else if c=61\/c=59 then some (b+1) else none
def Zmm(C:Addr)(H:Hp)(E:XK){α:Type}(o:Option α)(Q:α->Prop):Prop:=match o with
 |none=>E (.ref C) none H
 |some e=>Q e
def Zmn(K:PySem.W.Frag)(C:Addr):Sp:=fun vs H Q E=>∃(a:Addr)(bs:List Nat)(b c:Nat),vs=[.ref a,iV b]/\SqL K H a (bs.map iV)/\bs[b]?=some c/\Zmm C H E (Zdy bs b c) fun e=>Q (iV e) H
theorem Zmo:Zo ["text","begin","code"] ["text","begin"] (Zi Zh9):=⟨rfl,rfl,rfl,by decide +kernel,rfl,by decide +kernel,by decide +kernel⟩
theorem Zmp(c:Nat):(Zab Zeg (.inl (c:Int):Key)).isSome=decide (c=61\/c=59):=by
 have e1:decide ((.inl 61:Key)=.inl (c:Int))=decide (c=61):=decide_eq_decide.mpr ⟨fun z=>by have:=Sum.inl.inj z;omega,fun z=>by rw[z];rfl⟩;have e2:decide ((.inl 59:Key)=.inl (c:Int))=decide (c=59):=decide_eq_decide.mpr ⟨fun z=>by have:=Sum.inl.inj z;omega,fun z=>by rw[z];rfl⟩;unfold Zab Zeg;rw[List.find?_cons,e1,List.find?_cons,e2];by_cases h1:c=61
 ·simp[h1]
 ·by_cases h2:c=59
  ·simp[h2]
  ·simp[h1,h2]
theorem ZsG{sg:Addr}(D:Zj K mg "end_of_word" Zh9 f)(NE:NT K mg C)(hQ:GI mg "QUOTE" 34)(hS:mg "SIGNS"=some (.ref sg))(kd:Zef K sg Zeg)
  (F1:Can P w K mg base CX0 1 "is_letter" ["code"] (ZbV Kgf1.isSmall)) (F2:Can P w K mg base (CX1 P w) 2 "end_of_name" ["text","begin"] (Zmj K C)) (F3:Can P w K mg base (CX1 P w) 1 "end_of_string" ["text","begin"] (Zmk K C)) :
  Can P w K mg base (CX1 P w) 3 "end_of_word" ["text","begin"] (Zmn K C):=by
 refine D.Zap Zmo (fun _ _ _ _ _ _ us hl=>match us,hl with|[_,_],_=>rfl) (fun vs H Q E h=>?_) (fun cdv A outer s H vs Q E hr h=>?_)
 ·obtain⟨a,bs,b,c,rfl,_⟩:=h;rfl
 ·obtain⟨a,bs,b,c,rfl,hL,hc,k⟩:=h;refine⟨_,Ze (Zx (i:=2) Zmo.nd rfl (Or.inl rfl) (ZG ZO (pv 0) (pv 1) (fun _ _=>rfl)))
   (Ze (Zy (Zam (Zp F1 hr Zs (Za (pv 2) Zb))) (Zh (Zm (Zp F2 hr (ZJ Zt) (Za (pv 0) (Za (pv 1) Zb))))) ZD)
   (Ze (Zy (ZC Z9 (pv 2) (Zu hQ) (Zz _)) (Zh (Zm (Zp F3 hr (ZJ Zt) (Za (pv 0) (Za (pv 1) Zb))))) ZD)
   (Ze (Zy (Zdd (ZsE kd (pv 2) (ZdP rfl hS rfl))) (Zh (Zm (ZY ZbD (pv 1) Zr))) ZD)
   (Zh (Zbd Zt NE))))),?_⟩
  have hb:b < bs.length:=(List.getElem?_eq_some_iff.mp hc).1;refine⟨_,rfl,_,rfl,a,_,_,_,rfl,rfl,hL,ZF (Zbe hc),?_⟩;refine⟨_,rfl,c,rfl,_,rfl,?_⟩;unfold Zdy at k;cases h1:Kgf1.isSmall c with
  |true =>
   rw[if_pos h1] at k;refine Zar ⟨_,rfl,_,rfl,a,bs,b,rfl,hL,Nat.le_of_lt hb,?_⟩;split
   ·rename_i z;rw[if_pos z] at k;exact k
   ·rename_i z;rw[if_neg z] at k;exact k
  |false =>
   rw[if_neg (by rw[h1];decide)] at k;refine ZW ⟨_,rfl,rfl,_,rfl,?_⟩;by_cases h2:c=34
   ·rw[if_pos h2] at k;refine ifD (Zau.mpr (by omega)) ⟨_,rfl,_,rfl,a,bs,b,rfl,hL,hb,?_⟩;split
    ·rename_i z;rw[if_pos z] at k;exact k
    ·rename_i z;rw[if_neg z] at k;exact k
   ·rw[if_neg h2] at k;refine ifN (fun z=>h2 (by have:=Zau.mp z;omega)) ⟨_,rfl,.inl (c:Int),rfl,_,rfl,?_⟩;by_cases h3:c=61\/c=59
    ·rw[if_pos h3] at k;exact ifB (by rw[Zmp,decide_eq_true h3]) ⟨_,rfl,_,_,rfl,rfl,k⟩
    ·rw[if_neg h3] at k;exact ifF (by rw[Zmp,decide_eq_false h3]) k
def Zeh(H:Hp)(v:V):Kgf1.Tok->Prop
 |.name b=>∃p,v=.ref p/\H p=some (.tup [.str "name",.str ⟨b.toArray⟩])
 |.str b=>∃p l,v=.ref p/\H p=some (.tup [.str "string",.ref l])/\H l=some (.lst (b.map iV))
 |.eq=>∃p,v=.ref p/\H p=some (.tup [.str "=",.str "="])
 |.semi=>∃p,v=.ref p/\H p=some (.tup [.str ";",.str ";"])
theorem Zeh.same{H H':Hp}{v:V}{t:Kgf1.Tok}(s:Zc H H')(h:Zeh H v t):Zeh H' v t:=by
 cases t with
 |name b=>obtain⟨p,e,h1⟩:=h;exact⟨p,e,s _ _ h1⟩
 |str b=>obtain⟨p,l,e,h1,h2⟩:=h;exact⟨p,l,e,s _ _ h1,s _ _ h2⟩
 |eq=>obtain⟨p,e,h1⟩:=h;exact⟨p,e,s _ _ h1⟩
 |semi=>obtain⟨p,e,h1⟩:=h;exact⟨p,e,s _ _ h1⟩
def hide(a:Addr)(H:Hp):Hp:=fun b=>if b=a then none else H b
theorem hide_self(a:Addr)(H:Hp):hide a H a=none:=if_pos rfl
theorem hide_ne{a b:Addr}(h:b≠a)(H:Hp):hide a H b=H b:=if_neg h
theorem Za7(a:Addr)(H:Hp):Zc (hide a H) H:=fun b o e=>by
 unfold hide at e;split at e
 ·cases e
 ·exact e
def Zmq(cs:List Nat):Kgf1.Tok->Prop
 |.name b=>cs=b/\b.all Tl.ZaB=true/\∃c r,b=c::r/\Kgf1.isSmall c=true
 |.str s=>cs=34::(s++[34])
 |.eq=>cs=[61]
 |.semi=>cs=[59]
def Zmr(K:PySem.W.Frag):Sp:=fun vs H Q _=>∃(a:Addr)(cs:List Nat)(t:Kgf1.Tok),vs=[.ref a]/\SqL K H a (cs.map iV)/\Zmq cs t/\cs.length<=30000/\∀v H',Zc H H'->(∀z,H z≠none->Zeh (hide z H') v t)->Q v H'
theorem Zig:Zo ["codes","code"] ["codes"] (Zi Zf2):=⟨rfl,rfl,rfl,by decide +kernel,rfl,by decide +kernel,by decide +kernel⟩
end
section
theorem Zms:∀cs:List Nat,TL.ZeO [] (cs.map fun c=>[c])=cs
 |[]=>rfl
 |[_]=>rfl
 |c::d::r=>by
  have ih:=Zms (d::r);show[c]++([]++TL.ZeO [] ((d::r).map fun c=>[c]))=_;rw[ih];rfl
theorem join_one(cs:List Nat):Txt.join "" (cs.map fun c=>(⟨#[c]⟩:Str))=⟨cs.toArray⟩:=by
 rw[TL.join_eq];refine TL.ZkY ?_;rw[TL.Zk1,List.map_map];exact Zms cs
def ZsH:Scope:={ kind:=.function,names:=[(".0",.local),("code",.local),("name_sign",.globalImplicit)],isGenerator:=false,isCoroutine:=false }
theorem ZsI:ZaT ["codes","code"] (Zi Zf2) ZsH [("code",1)]:=⟨rfl,by decide +kernel,by decide +kernel,by decide +kernel,by decide +kernel⟩
theorem ZsJ{cs s:List Nat}(e:cs=34::(s++[34])):Zba (cs.map iV) (some 1) (some (-1))=s.map iV:=by
 subst e;have hl:((34::(s++[34])).map iV).length=s.length+2:=by simp
 unfold Zba;have e1:HT.sIx (s.length+2) 0 (some 1)=1:=by
  rw[show(1:Int)=((1:Nat):Int) from rfl,HT.ZdW];omega
 have e2:HT.sIx (s.length+2) (s.length+2) (some (-1))=s.length+1:=by
  show(if(-1:Int) < 0 then((-1:Int)+((s.length+2:Nat):Int)).toNat else min (-1:Int).toNat (s.length+2))=s.length+1;rw[if_pos (by decide)];omega
 rw[hl,e1,e2];simp
theorem Zmt{σ:St}{H:Hp}{Q:Bool->Hp->Prop}(h:Q true H):ZaU σ H Q:=h
theorem Zq{H:Hp}{p:Addr}{o:HO}(h:H p=none):Zc H (upd H p o):=fun b u e=>by
 rw[Zf (Zk e h)];exact e
theorem Zmu:∀cs:List Nat,(cs.map fun c=>(⟨#[c]⟩:Str).length).sum=cs.length
 |[]=>rfl
 |c::r=>by
  rw[List.map_cons,List.sum_cons,Zmu r,List.length_cons];show 1+r.length=r.length+1;omega
theorem ZsK{sg:Addr}(D:Zj K mg "word_from" Zf2 f)(hQ:GI mg "QUOTE" 34)(hS:mg "SIGNS"=some (.ref sg))(kd:Zef K sg Zeg)
  (F1:Can P w K mg base CX0 1 "is_letter" ["code"] (ZbV Kgf1.isSmall)) (F2:Can P w K mg base CX0 2 "name_sign" ["code"] Zmh) :
  Can P w K mg base CX0 3 "word_from" ["codes"] (Zmr K):=by
 refine D.can Zig (fun _ _ _ _ _ _ us hl=>match us,hl with|[_],_=>rfl) (fun vs H Q E h=>?_) (fun cdv A outer s H vs Q E hr h=>?_)
 ·obtain⟨a,cs,t,rfl,_⟩:=h;rfl
 ·obtain⟨a,cs,t,rfl,hL,hw,hz,k⟩:=h;refine⟨_,Ze (Zy (Zam (Zp F1 hr Zs (Za (ZG ZO (pv 0) Zr (fun _ _=>rfl)) Zb)))
    (Zh (Zm (Zdi (Za Zad (Za (ZqY Zad (Zbr (own:=[("code",1)]) rfl Zig.nd (Zaw (pv 0)) ZsI
   (fun _ _ _ _ _=>ZL (i:=1) Zig.nd rfl (Or.inl rfl)) (fun _ _ _ _ _=>Zb9) (fun _ _ _ _ _=>Zp F2 hr Zs (Za (pv 1) Zb)))) Zb))))) ZD)
   (Ze (Zy (ZC Z9 (ZG ZO (pv 0) Zr (fun _ _=>rfl)) (Zu hQ) (Zz _)) (Zh (Zm (Zdi (Za Zad (Za (Zdk Zdm (pv 0) (Zb8 Zr) (Zb8 (Zg1 Zg2 Zr))) Zb))))) ZD)
   (Zh (Zm (Zdi (Za (Zml kd (ZG ZO (pv 0) Zr (fun _ _=>rfl)) (ZdP rfl hS rfl) (fun _ _=>rfl)) (Za (Zml kd (ZG ZO (pv 0) Zr (fun _ _=>rfl)) (ZdP rfl hS rfl) (fun _ _=>rfl)) Zb)))))),?_⟩
  obtain⟨c0,h0⟩:∃c0,cs[0]?=some c0:=by
   cases t with
   |name b=>obtain⟨rfl,_,c,r,rfl,_⟩:=hw;exact⟨c,rfl⟩
   |str s=>subst hw;exact⟨34,rfl⟩
   |eq=>subst hw;exact⟨61,rfl⟩
   |semi=>subst hw;exact⟨59,rfl⟩
  have hit:atI (cs.map iV) 0=some (iV c0):=ZF (j:=0) (Zbe h0);refine⟨_,rfl,a,_,_,_,rfl,rfl,hL,hit,c0,rfl,_,rfl,?_⟩;cases t with
  |name b =>
   obtain⟨rfl,hb,c,r,rfl,hc⟩:=hw;obtain rfl:c=c0:=by simpa using h0
   refine ifB hc ?_;refine⟨⟨_,rfl⟩,_,rfl,a,rfl,⟨_,hL⟩,fun Dl hD=>?_⟩;have s1:∀o,Zc H (upd H Dl o):=fun o=>Zq hD;refine ZcN (K:=K) (a:=a) (xs:=(c::r).map iV) (fun i H'=>H'=upd H Dl (.lst (((c::r).take i).map fun c=>V.str ⟨#[c]⟩))) rfl (fun i H' _ e=>by rw[e];exact(s1 _).seq hL) ?_ ?_
   ·rintro i x H' hx rfl;obtain⟨d,hd,rfl⟩:∃d,(c::r)[i]?=some d/\iV d=x:=by
     rw[List.getElem?_map] at hx;exact Option.map_eq_some_iff.mp hx
    refine⟨rfl,Zmt ?_⟩;refine Zar ⟨_,rfl,d,rfl,List.all_eq_true.mp hb d (List.mem_of_getElem? hd),_,Zd,?_,?_⟩
    ·rw[List.length_map,List.length_take];have:=hz;have:sizeLine=16777216:=by decide
     omega
    ·rw[Z5,List.take_add_one,hd,List.map_append];rfl
   ·rintro H' rfl;rw[List.length_map,List.take_length];refine⟨_,Dl,(c::r).map fun c=>(⟨#[c]⟩:Str),rfl,rfl,.inl (SqL.of ?_),?_,?_⟩
    ·rw[Zd,List.map_map];rfl
    ·rw[List.map_map];have e1:=Zmu (c::r);have e2:((c::r).map ((fun x:Str=>x.length)∘fun c=>(⟨#[c]⟩:Str))).sum=(c::r).length:=e1;rw[e2];show(c::r).length+((c::r).map fun c=>(⟨#[c]⟩:Str)).length * 0<=16777216;omega
    ·refine⟨by show 2<=sizeLine;decide,fun p hp=>k _ _ ((s1 _).trans (Zq hp)) fun z hz2=>⟨p,rfl,?_⟩⟩;have hpz:p≠z:=fun e=>hz2 (by rw[←e];exact(s1 _).free hp);rw[hide_ne hpz,Zd,join_one]
  |str s2 =>
   have hw:cs=34::(s2++[34]):=hw;have e0:c0=34:=by rw[hw] at h0;simpa using h0.symm
   subst e0;refine ZW ⟨_,rfl,a,_,_,_,rfl,rfl,hL,hit,rfl,_,rfl,ifD rfl ?_⟩;refine⟨_,rfl,_,rfl,_,rfl,_,rfl,a,_,rfl,hL,fun l hl=>⟨by show 2<=sizeLine;decide,fun p hp=>?_⟩⟩;have e1:Zba (cs.map iV) (some 1) (some (-1))=s2.map iV:=ZsJ hw;refine k _ _ ((Zq hl).trans (Zq hp)) fun z hz2=>⟨p,l,rfl,?_,?_⟩
   ·have hpz:p≠z:=fun e=>hz2 (by rw[←e];exact(Zq hl).free hp);rw[hide_ne hpz,Zd]
   ·have hlz:l≠z:=fun e=>hz2 (by rw[←e];exact hl);have hlp:l≠p:=fun e=>by rw[e,Zd] at hp;cases hp
    rw[hide_ne hlz,Zf hlp,Zd];exact congrArg (fun y=>some (HO.lst y)) e1
  |eq =>
   have hw:cs=[61]:=hw;have e0:c0=61:=by rw[hw] at h0;simpa using h0.symm
   subst e0;refine ZW ⟨_,rfl,a,_,_,_,rfl,rfl,hL,hit,rfl,_,rfl,ifN (by decide) ?_⟩;refine⟨_,rfl,a,_,_,_,rfl,rfl,hL,hit,.inl 61,.str "=",rfl,by decide,_,rfl,a,_,_,_,rfl,rfl,hL,hit,.inl 61,.str "=",rfl,by decide,by show 2<=sizeLine;decide,fun p hp=>?_⟩;refine k _ _ (Zq hp) fun z hz2=>⟨p,rfl,?_⟩
   have hpz:p≠z:=fun e=>hz2 (by rw[←e];exact hp);rw[hide_ne hpz,Zd]
  |semi =>
   have hw:cs=[59]:=hw;have e0:c0=59:=by rw[hw] at h0;simpa using h0.symm
   subst e0;refine ZW ⟨_,rfl,a,_,_,_,rfl,rfl,hL,hit,rfl,_,rfl,ifN (by decide) ?_⟩;refine⟨_,rfl,a,_,_,_,rfl,rfl,hL,hit,.inl 59,.str ";",rfl,by decide,_,rfl,a,_,_,_,rfl,rfl,hL,hit,.inl 59,.str ";",rfl,by decide,by show 2<=sizeLine;decide,fun p hp=>?_⟩;refine k _ _ (Zq hp) fun z hz2=>⟨p,rfl,?_⟩
   have hpz:p≠z:=fun e=>hz2 (by rw[←e];exact hp);rw[hide_ne hpz,Zd]
end
theorem Zih{bs:List Nat}{i c:Nat}(h:bs[i]?=some c):bs.drop i=c::bs.drop (i+1):=by
 obtain⟨hi,e⟩:=List.getElem?_eq_some_iff.mp h;rw[List.drop_eq_getElem_cons hi,e]
theorem ZsL{bs:List Nat}{i c:Nat}(hc:bs[i]?=some c)(hb:¬(c=10\/c=32))(h:Zdy bs i c=none):Tl.toks (bs.drop i)=none:=by
 have hd:=Zih hc;unfold Zdy at h;by_cases h1:Kgf1.isSmall c=true
 ·rw[if_pos h1] at h;have hn:12 < Zav bs i:=by
   by_cases z:12 < Zav bs i
   ·exact z
   ·rw[if_neg z] at h;cases h
  unfold Zav at hn;rw[hd] at hn ⊢;rw[Tl.Zk6 h1,if_pos hn]
 ·rw[if_neg h1] at h;by_cases h2:c=34
  ·rw[if_pos h2] at h;have hn:ZbX bs i:=by
    by_cases z:ZbX bs i
    ·exact z
    ·rw[if_neg z] at h;cases h
   subst h2;unfold ZbX Z1 at hn;rw[hd,Tl.Zk5,if_pos hn]
  ·rw[if_neg h2] at h;have h3:¬(c=61\/c=59):=fun z=>by rw[if_pos z] at h;cases h
   rw[hd];exact Tl.Zq5 (Bool.eq_false_iff.mpr h1) hb (fun z=>h3 (.inl z)) (fun z=>h3 (.inr z)) h2
theorem take_takeWhile(p:Nat->Bool)(l:List Nat):l.take (l.takeWhile p).length=l.takeWhile p:=(List.prefix_iff_eq_take.mp (List.takeWhile_prefix p)).symm
theorem ZsM{bs:List Nat}{i c e:Nat}(hc:bs[i]?=some c)(hb:¬(c=10\/c=32))(h:Zdy bs i c=some e) :
  i < e/\e<=bs.length/\∃t,Tl.toks (bs.drop i)=(Tl.toks (bs.drop e)).map (fun l=>t::l)/\Zmq ((bs.drop i).take (e - i)) t:=by
 have hd:=Zih hc;have hi:i < bs.length:=(List.getElem?_eq_some_iff.mp hc).1;unfold Zdy at h;by_cases h1:Kgf1.isSmall c=true
 ·rw[if_pos h1] at h;have hn:¬12 < Zav bs i:=fun z=>by rw[if_pos z] at h;cases h
  rw[if_neg hn] at h;obtain rfl:i+Zav bs i=e:=Option.some.inj h;have hpos:0 < Zav bs i:=by
   unfold Zav;rw[hd,List.takeWhile_cons];simp[Tl.ZaB,h1]
  have hle:Zav bs i<=bs.length - i:=by
   have:=(List.takeWhile_prefix (l:=bs.drop i) Tl.ZaB).length_le;rw[List.length_drop] at this;exact this
  refine⟨by omega,by omega,.name ((bs.drop i).takeWhile Tl.ZaB),?_,?_,?_,?_⟩
  ·have e1:Tl.toks (bs.drop i)=if 12 < ((bs.drop i).takeWhile Tl.ZaB).length then none else(Tl.toks ((bs.drop i).drop ((bs.drop i).takeWhile Tl.ZaB).length)).map fun l=>Kgf1.Tok.name ((bs.drop i).takeWhile Tl.ZaB)::l:=by
    rw[hd];exact Tl.Zk6 h1
   have hn2:=hn;unfold Zav at hn2;rw[e1,if_neg hn2,List.drop_drop];rfl
  ·show(bs.drop i).take (i+Zav bs i - i)=_;rw[show i+Zav bs i - i=Zav bs i by omega];exact take_takeWhile _ _
  ·exact List.all_takeWhile
  ·rw[hd,List.takeWhile_cons];exact⟨c,(bs.drop (i+1)).takeWhile Tl.ZaB,by simp[Tl.ZaB,h1],h1⟩
 ·rw[if_neg h1] at h;by_cases h2:c=34
  ·rw[if_pos h2] at h;have hn:¬ZbX bs i:=fun z=>by rw[if_pos z] at h;cases h
   rw[if_neg hn] at h;obtain rfl:i+Z1 bs i+2=e:=Option.some.inj h;subst h2;have hq:bs[i+1+Z1 bs i]?=some 34:=by
    by_cases z:((bs.drop (i+1)).drop (Z1 bs i)).head?=some 34
    ·rw[Zie] at z;exact z
    ·exact absurd (Or.inr z) hn
   have hlt:i+1+Z1 bs i < bs.length:=(List.getElem?_eq_some_iff.mp hq).1;refine⟨by omega,by omega,.str ((bs.drop (i+1)).takeWhile Tl.ZaW),?_,?_⟩
   ·have hn2:=hn;unfold ZbX Z1 at hn2;rw[hd,Tl.Zk5,if_neg hn2,List.drop_drop];congr 2;rw[show i+1+(((bs.drop (i+1)).takeWhile Tl.ZaW).length+1)=i+Z1 bs i+2 by unfold Z1;omega]
   ·show(bs.drop i).take (i+Z1 bs i+2 - i)=34::((bs.drop (i+1)).takeWhile Tl.ZaW++[34]);rw[show i+Z1 bs i+2 - i=Z1 bs i+1+1 by omega,hd,List.take_succ_cons,List.take_add_one];have e1:(bs.drop (i+1))[Z1 bs i]?=some 34:=by rw[List.getElem?_drop];exact hq
    rw[e1];have e2:(bs.drop (i+1)).take (Z1 bs i)=(bs.drop (i+1)).takeWhile Tl.ZaW:=take_takeWhile _ _;rw[e2];rfl
  ·rw[if_neg h2] at h;have h3:c=61\/c=59:=by
    by_cases z:c=61\/c=59
    ·exact z
    ·rw[if_neg z] at h;cases h
   rw[if_pos h3] at h;obtain rfl:i+1=e:=Option.some.inj h;have e1:(bs.drop i).take (i+1 - i)=[c]:=by
    rw[show i+1 - i=0+1 by omega,hd,List.take_succ_cons];rfl
   rcases h3 with rfl|rfl
   ·exact⟨by omega,by omega,.eq,by rw[hd];exact Tl.Zq2,e1⟩
   ·exact⟨by omega,by omega,.semi,by rw[hd];exact Tl.Zq3,e1⟩
theorem ZsN{bs:List Nat}{i e:Nat}(hi:i<=e)(he:e<=bs.length):Zba (bs.map iV) (some (i:Int)) (some (e:Int))=((bs.drop i).take (e - i)).map iV:=by
 unfold Zba;rw[HT.ZdW,HT.ZdW,List.length_map,Nat.min_eq_left (by omega:i<=bs.length),Nat.min_eq_left he,←List.map_drop,←List.map_take]
abbrev Zcw(F:Hp)(refs:List V)(ts:List Kgf1.Tok):Prop:=Paired (Zeh F) refs ts
theorem Zcw.same{F F':Hp}(s:Zc F F'):∀{refs:List V}{ts:List Kgf1.Tok},Zcw F refs ts->Zcw F' refs ts
 |_,_,.nil=>.nil
 |_,_,.cons h t=>.cons (h.same s) (Zcw.same s t)
theorem Paired.snoc{α β:Type}{F:α->β->Prop}{a:α}{b:β}:∀{l:List α}{m:List β},Paired F l m->F a b->Paired F (l++[a]) (m++[b])
 |_,_,.nil,h=>.cons h .nil
 |_,_,.cons q t,h=>.cons q (Paired.snoc t h)
section
def Zmv(K:PySem.W.Frag)(C:Addr):Sp:=fun vs H Q E=>∃(a:Addr)(bs:List Nat),vs=[.ref a]/\SqL K H a (bs.map iV)/\bs.length<=30000 /\
 match Tl.toks bs with
 |none=>∀H',Zc H H'->E (.ref C) none H'
 |some ts=>∀lw refs H',Zc H H'->H' lw=some (.lst refs)->Zcw H' refs ts->refs.length<=30000->Q (.ref lw) H'
theorem Zei:Zo ["text","words","place","end"] ["text"] (Zi Zia):=⟨rfl,rfl,rfl,by decide +kernel,rfl,by decide +kernel,by decide +kernel⟩
theorem ZsO(D:Zj K mg "words_of" Zia f)(NE:NT K mg C)(hlen:mg "len"=none)(hLF:GI mg "LINE_FEED" 10)(hB:GI mg "BLANK" 32)
  (F1:Can P w K mg base (CX1 P w) 3 "end_of_word" ["text","begin"] (Zmn K C)) (F2:Can P w K mg base CX0 3 "word_from" ["codes"] (Zmr K)) :
  Can P w K mg base (CX1 P w) 4 "words_of" ["text"] (Zmv K C):=by
 refine D.Zap Zei (fun _ _ _ _ _ _ us hl=>match us,hl with|[_],_=>rfl) (fun vs H Q E h=>?_) (fun cdv A outer s H vs Q E hr h=>?_)
 ·obtain⟨a,bs,rfl,_⟩:=h;rfl
 ·obtain⟨a,bs,rfl,hL,hz,k⟩:=h;refine⟨_,Ze (Zx (i:=1) Zei.nd rfl (Or.inl rfl) (ZQ Zb))
   (Ze (Zx (i:=2) Zei.nd rfl (Or.inl rfl) Zr)
   (Ze (ZbB (Throws.own Zt) (ZC Zcq (pv 2) (ZN Z0 (by rfl) hlen PySem.boot_len (Za (pv 0) Zb)) (Zz _))
    (Zh (Zy (ZeA (ZC Z9 (ZG ZO (pv 0) (pv 2) (fun _ _=>rfl)) (Zu hLF) (Zz _)) (Zfq (ZC Z9 (ZG ZO (pv 0) (pv 2) (fun _ _=>rfl)) (Zu hB) (Zz _)))).pt
     (Zh (ZbP (i:=2) Zei.nd rfl (Or.inl rfl) Zr ZcK))
     (Ze (Zx (i:=3) Zei.nd rfl (Or.inl rfl) (Zp F1 hr (ZJ Zt) (Za (pv 0) (Za (pv 2) Zb))))
     (Ze (ZK (Zax PySem.F.plainAttrs_list PySem.F.slot_list_append PySem.F.type_list_append ZaQ (pv 1) (Za (Zp F2 hr Zs (Za (Zdk Zdm (pv 0) (Zb8 (pv 2)) (Zb8 (pv 3))) Zb)) Zb)))
     (Zh (Zx (i:=2) Zei.nd rfl (Or.inl rfl) (pv 3))))))))
   (Zh (Zm (pv 1))))),?_⟩
  refine⟨by show 0<=sizeLine;decide,fun lw hlw=>?_⟩;refine ZbK (fun m σ H'=>∃(i:Nat)(oe:Option V)(refs:List V)(ts:List Kgf1.Tok),m=bs.length - i/\σ=[some (.ref a),some (.ref lw),some (iV i),oe]/\i<=bs.length/\refs.length<=i/\Zc H (hide lw H')/\H' lw=some (.lst refs)/\Zcw (hide lw H') refs ts/\Tl.toks bs=(Tl.toks (bs.drop i)).map (fun l=>ts++l))
   (fun σ H'=>∃(oe:Option V)(i:Nat)(refs:List V)(ts:List Kgf1.Tok),σ=[some (.ref a),some (.ref lw),some (iV i),oe]/\refs.length<=bs.length/\Zc H (hide lw H')/\H' lw=some (.lst refs)/\Zcw (hide lw H') refs ts/\Tl.toks bs=some ts) ?_ ?_ ?_
  ·refine⟨_,0,none,[],[],rfl,rfl,Nat.zero_le _,Nat.le_refl _,fun b o e=>?_,Zd,.nil,?_⟩
   ·have hb:b≠lw:=Zk e hlw;rw[hide_ne hb,Zf hb];exact e
   ·rw[List.drop_zero];cases Tl.toks bs<;>rfl
  ·rintro σ H' ⟨oe,i,refs,ts,rfl,hr1,s1,h1,t1,e1⟩;rw[e1] at k;exact⟨_,rfl,k lw refs H' (s1.trans (Za7 _ _)) h1 (t1.same (Za7 _ _)) (by omega)⟩
  ·rintro exit m σ H' ⟨i,oe,refs,ts,rfl,rfl,hi,hri,s1,h1,t1,e1⟩;have hL':SqL K H' a (bs.map iV):=(s1.trans (Za7 _ _)).seq hL;refine⟨_,rfl,_,rfl,a,_,rfl,.inl hL',_,_,rfl,rfl,_,rfl,?_⟩;by_cases he:i < bs.length
   ·refine ZcY (decide_eq_true (by rw[List.length_map];omega)) ?_;obtain⟨c,hc⟩:∃c,bs[i]?=some c:=⟨bs[i],List.getElem?_eq_getElem he⟩
    have hit:=ZF (Zbe hc);have blank:(c=10\/c=32)->Tl.toks bs=(Tl.toks (bs.drop (i+1))).map (fun l=>ts++l):=fun z=>by
     rw[e1,Zih hc,Tl.Zq1 z]
    refine⟨_,rfl,_,rfl,a,_,_,_,rfl,rfl,hL',hit,rfl,_,rfl,?_⟩;by_cases hc1:c=10
    ·refine ifD (Zau.mpr (by omega)) (Zar ⟨_,rfl,_,_,rfl,rfl,?_⟩);exact⟨_,by show bs.length - (i+1) < bs.length - i;omega,i+1,oe,refs,ts,rfl,rfl,by omega,by omega,s1,h1,t1,blank (.inl hc1)⟩
    ·refine ifN (fun z=>hc1 (by have:=Zau.mp z;omega)) ⟨_,rfl,_,rfl,a,_,_,_,rfl,rfl,hL',hit,rfl,_,rfl,?_⟩;by_cases hc2:c=32
     ·refine ifD (Zau.mpr (by omega)) ⟨_,rfl,_,_,rfl,rfl,?_⟩;exact⟨_,by show bs.length - (i+1) < bs.length - i;omega,i+1,oe,refs,ts,rfl,rfl,by omega,by omega,s1,h1,t1,blank (.inr hc2)⟩
     ·have hnb:¬(c=10\/c=32):=fun z=>z.elim hc1 hc2;refine ifN (fun z=>hc2 (by have:=Zau.mp z;omega)) ?_;refine⟨_,rfl,_,rfl,a,bs,i,c,rfl,hL',hc,?_⟩;cases we:Zdy bs i c with
      |none =>
       rw[e1,ZsL hc hnb we] at k;exact k H' (s1.trans (Za7 _ _))
      |some e =>
       obtain⟨hie,hle,t,et,hw⟩:=ZsM hc hnb we;show Zmm C H' E (some e) _;refine⟨_,rfl,.inl ⟨rfl,_,SqL.of h1⟩,?_⟩;refine⟨_,rfl,_,rfl,_,rfl,_,rfl,_,rfl,a,_,rfl,hL',fun p hp=>?_⟩;refine⟨p,(bs.drop i).take (e - i),t,rfl,SqL.of (by rw[Zd,ZsN (by omega) hle]),hw,?_,fun v H2 s2 tk=>?_⟩
       ·rw[List.length_take,List.length_drop];omega
       ·have hlp:lw≠p:=Zk h1 hp;have h1':upd H' p (.lst (Zba (bs.map iV) (some (i:Int)) (some (e:Int)))) lw=some (.lst refs):=by rw[Zf hlp];exact h1
        have h2:H2 lw=some (.lst refs):=s2 _ _ h1';have s3:Zc (hide lw H') (hide lw (upd H2 lw (.lst (refs++[v])))):=fun b o q=>by
         have hb:b≠lw:=fun z=>by rw[z,hide_self] at q;cases q
         rw[hide_ne hb] at q ⊢;rw[Zf hb];exact s2 _ _ (by rw[Zf (Zk q hp)];exact q)
        have s4:Zc (hide lw H2) (hide lw (upd H2 lw (.lst (refs++[v])))):=fun b o q=>by
         have hb:b≠lw:=fun z=>by rw[z,hide_self] at q;cases q
         rw[hide_ne hb] at q ⊢;rw[Zf hb];exact q
        refine⟨lw,refs,v,rfl,rfl,h2,?_,?_⟩
        ·have:sizeLine=16777216:=by decide
         omega
        ·refine⟨_,rfl,?_⟩;refine⟨_,?_,e,some (iV e),refs++[v],ts++[t],rfl,rfl,hle,?_,s1.trans s3,Zd,Paired.snoc (t1.same s3) ((tk lw (by rw[h1'];simp)).same s4),?_⟩
         ·show bs.length - e < bs.length - i;omega
         ·rw[List.length_append];show refs.length+1<=e;omega
         ·rw[e1,et];cases Tl.toks (bs.drop e) with
          |none=>rfl
          |some l=>show some _=some _;simp
   ·have hie:i=bs.length:=by omega
    refine ifN (by rw[List.length_map];omega) (exit _ _ ⟨oe,i,refs,ts,rfl,by omega,s1,h1,t1,?_⟩);rw[e1,hie,List.drop_length,Tl.Zq0];show some (ts++[])=_;rw[List.append_nil]
end
theorem Zmw{xs:List Nat}{c:Nat}(h:xs.getLast?=some c):atI (xs.map iV) (-1)=some (iV c):=by
 have hne:xs≠[]:=fun z=>by rw[z] at h;cases h
 have hl:0 < xs.length:=List.length_pos_iff.mpr hne;have e1:ixN (xs.map iV).length (-1)=some (xs.length - 1):=by
  unfold ixN;rw[List.length_map,if_neg (by decide),if_pos (by omega)];congr 1;omega
 unfold atI;rw[e1];show(xs.map iV)[xs.length - 1]?=_;rw[List.getElem?_map,←List.getLast?_eq_getElem?,h];rfl
theorem map_len{xs:List Nat}:(xs.map iV).length=xs.length:=List.length_map _
theorem ZsP(bs:List Nat)(i c:Nat)(h:bs[i]?=some c):(bs.take (i+1)).foldl Tl.ZaK []=Tl.ZaK ((bs.take i).foldl Tl.ZaK []) c:=by
 rw[List.take_add_one,h,List.foldl_append];rfl
theorem ZsQ(acc:List Nat)(c:Nat):(Tl.ZaK acc c).length<=acc.length+1:=by
 unfold Tl.ZaK;split
 ·simp
 ·split
  ·simp
  ·split
   ·simp
   ·omega
theorem Zmx:∀(l acc:List Nat),(l.foldl Tl.ZaK acc).length<=acc.length+l.length
 |[],acc=>by simp
 |c::r,acc=>by
  rw[List.foldl_cons,List.length_cons];have:=Zmx r (Tl.ZaK acc c);have:=ZsQ acc c;omega
section
def Zii(K:PySem.W.Frag):Sp:=fun vs H Q _=>∃(a:Addr)(bs:List Nat),vs=[.ref a]/\SqL K H a (bs.map iV)/\bs.length<=30000/\∀l,H l=none->Q (.ref l) (upd H l (.lst ((Kgf1.plain bs).map iV)))
theorem Zij:Zo ["line","plain","code"] ["line"] (Zi Zib):=⟨rfl,rfl,rfl,by decide +kernel,rfl,by decide +kernel,by decide +kernel⟩
theorem ZsR(D:Zj K mg "plain_line" Zib f)(hlen:mg "len"=none)(hB:GI mg "BLANK" 32)(F1:Can P w K mg base CX0 1 "is_big_letter" ["code"] (ZbV Zcv)) :
  Can P w K mg base CX0 2 "plain_line" ["line"] (Zii K):=by
 refine D.can Zij (fun _ _ _ _ _ _ us hl=>match us,hl with|[_],_=>rfl) (fun vs H Q E h=>?_) (fun cdv A outer s H vs Q E hr h=>?_)
 ·obtain⟨a,bs,rfl,_⟩:=h;rfl
 ·obtain⟨a,bs,rfl,hL,hz,k⟩:=h;refine⟨_,Ze (Zx (i:=1) Zij.nd rfl (Or.inl rfl) (ZQ Zb))
   (Ze (Za1 PassesOwn.never rfl (Zaw (pv 0)) (ZL (i:=2) Zij.nd rfl (Or.inl rfl))
    (Zh (Zy (Zam (Zp F1 hr Zs (Za (pv 2) Zb)))
     (Zh (ZK (Zax PySem.F.plainAttrs_list PySem.F.slot_list_append PySem.F.type_list_append ZaQ (pv 1) (Za (ZY ZbD (pv 2) Zr) Zb))))
     (Zh (Zy (ZC Zdg (pv 2) (Zu hB) (Zz _))
      (Zh (ZK (Zax PySem.F.plainAttrs_list PySem.F.slot_list_append PySem.F.type_list_append ZaQ (pv 1) (Za (pv 2) Zb))))
      (Zh (Zy (ZdR (ZC ZdT (ZN Z0 (by rfl) hlen PySem.boot_len (Za (pv 1) Zb)) Zr (Zz _)) (ZdQ (ZC Zdg (ZG ZO (pv 1) (Zg1 Zg2 Zr) (fun _ _=>rfl)) (Zu hB) (Zz _)))).pt
       (Zh (ZK (Zax PySem.F.plainAttrs_list PySem.F.slot_list_append PySem.F.type_list_append ZaQ (pv 1) (Za (Zu hB) Zb)))) ZD)))))))
   (Ze (Zy (ZdR (ZC ZdT (ZN Z0 (by rfl) hlen PySem.boot_len (Za (pv 1) Zb)) Zr (Zz _)) (ZdQ (ZC Z9 (ZG ZO (pv 1) (Zg1 Zg2 Zr) (fun _ _=>rfl)) (Zu hB) (Zz _)))).pt
    (Zh (ZK (ZpQ PySem.F.plainAttrs_list PySem.F.slot_list_pop PySem.F.type_list_pop ZpX (pv 1)))) ZD)
   (Zh (Zm (pv 1))))),?_⟩
  refine⟨by show 0<=sizeLine;decide,fun l hl=>?_⟩;have big:sizeLine=16777216:=by decide
  have s1:∀o,Zc H (upd H l o):=fun o=>Zq hl;refine⟨_,rfl,a,rfl,⟨_,(s1 _).seq hL⟩,Za9 (K:=K) (a:=a) (xs:=bs.map iV) (fun i σ H'=>∃oc,σ=[some (.ref a),some (.ref l),oc]/\H'=upd H l (.lst (((bs.take i).foldl Tl.ZaK []).map iV))) ⟨none,rfl,rfl⟩ (fun i σ H' _ ⟨_,_,e⟩=>by rw[e];exact(s1 _).seq hL) ?_ ?_⟩
  ·rintro i x σ H' hx ⟨oc,rfl,rfl⟩;obtain⟨c,hc,rfl⟩:∃c,bs[i]?=some c/\iV c=x:=by
    rw[List.getElem?_map] at hx;exact Option.map_eq_some_iff.mp hx
   have hi:i < bs.length:=(List.getElem?_eq_some_iff.mp hc).1;have hln:((bs.take i).foldl Tl.ZaK []).length<=30000:=by
    have:=Zmx (bs.take i) [];simp only[List.length_nil,List.length_take] at this;omega
   have ef:=ZsP bs i c hc;generalize (bs.take i).foldl Tl.ZaK []=acc at hln ef ⊢;refine⟨_,rfl,c,rfl,_,rfl,?_⟩;cases hb:Zcv c with
   |true =>
    have hb':65<=c/\c<=90:=by simpa[Zcv] using hb
    have e:Tl.ZaK acc c=acc++[c+32]:=if_pos hb';refine Zar ⟨_,rfl,.inl ⟨rfl,_,SqL.of Zd⟩,_,rfl,_,_,rfl,rfl,l,_,_,rfl,rfl,Zd,by rw[map_len];omega,some (iV c),rfl,?_⟩;rw[Z5,ef,e,List.map_append];rfl
   |false =>
    have hb':¬(65<=c/\c<=90):=by simpa[Zcv] using hb
    refine ZW ⟨_,rfl,rfl,_,rfl,?_⟩;by_cases hc2:c=32
    ·refine Zbt (Zau.mpr (by omega)) ?_;refine⟨_,rfl,l,_,rfl,.inl (SqL.of Zd),_,_,rfl,rfl,_,rfl,?_⟩;have e0:Tl.ZaK acc c=if acc≠[]/\acc.getLast?≠some 32 then acc++[32] else acc:=by
      unfold Tl.ZaK;rw[if_neg hb',if_neg (fun z=>z hc2)]
     by_cases hn:acc=[]
     ·refine ifN (by rw[map_len,hn];decide) (ZW ⟨some (iV c),rfl,?_⟩);rw[ef,e0,if_neg fun z=>z.1 hn]
     ·have hpos:0 < acc.length:=List.length_pos_iff.mpr hn;obtain⟨d,hd⟩:∃d,acc.getLast?=some d:=⟨_,List.getLast?_eq_some_getLast hn⟩
      refine ifD (by rw[map_len];omega) ⟨_,rfl,_,rfl,l,_,_,_,rfl,rfl,SqL.of Zd,Zmw hd,rfl,_,rfl,?_⟩;by_cases hd2:d=32
      ·refine Zbt (Zau.mpr (by omega)) ⟨some (iV c),rfl,?_⟩;rw[ef,e0,if_neg fun z=>z.2 (by rw[hd,hd2])]
      ·refine ZbW (fun z=>hd2 (by have:=Zau.mp z;omega)) ?_;refine⟨_,rfl,.inl ⟨rfl,_,SqL.of Zd⟩,l,_,_,rfl,rfl,Zd,by rw[map_len];omega,some (iV c),rfl,?_⟩;rw[Z5,ef,e0,if_pos ⟨hn,fun z=>hd2 (by rw[hd] at z;exact Option.some.inj z)⟩,List.map_append];rfl
    ·refine ZbW (fun z=>hc2 (by have:=Zau.mp z;omega)) ?_;refine⟨_,rfl,.inl ⟨rfl,_,SqL.of Zd⟩,_,rfl,l,_,_,rfl,rfl,Zd,by rw[map_len];omega,some (iV c),rfl,?_⟩;have e0:Tl.ZaK acc c=acc++[c]:=by
      unfold Tl.ZaK;rw[if_neg hb',if_pos hc2]
     rw[Z5,ef,e0,List.map_append];rfl
  ·rintro σ H' ⟨oc,rfl,rfl⟩;rw[map_len,List.take_length];have hpl:=Tl.Zrs bs;generalize bs.foldl Tl.ZaK []=acc at hpl ⊢;refine⟨_,rfl,l,_,rfl,.inl (SqL.of Zd),_,_,rfl,rfl,_,rfl,?_⟩;by_cases hn:acc=[]
   ·refine ifN (by rw[map_len,hn];decide) (ZW ⟨_,rfl,?_⟩);have e:Kgf1.plain bs=acc:=by rw[hpl,hn];rfl
    rw[←e];exact k l hl
   ·have hpos:0 < acc.length:=List.length_pos_iff.mpr hn;obtain⟨d,hd⟩:∃d,acc.getLast?=some d:=⟨_,List.getLast?_eq_some_getLast hn⟩
    refine ifD (by rw[map_len];omega) ⟨_,rfl,_,rfl,l,_,_,_,rfl,rfl,SqL.of Zd,Zmw hd,rfl,_,rfl,?_⟩;by_cases hd2:d=32
    ·refine ifD (Zau.mpr (by omega)) ?_;have e:Kgf1.plain bs=acc.dropLast:=by
      rw[hpl];exact if_pos (by rw[hd,hd2])
     refine⟨_,rfl,.inl ⟨rfl,_,SqL.of Zd⟩,l,_,iV d,rfl,rfl,Zd,?_,_,rfl,?_⟩
     ·rw[map_len,List.getElem?_map,←List.getLast?_eq_getElem?,hd];rfl
     ·rw[Z5,←List.map_dropLast,←e];exact k l hl
    ·refine ifN (fun z=>hd2 (by have:=Zau.mp z;omega)) ⟨_,rfl,?_⟩;have e:Kgf1.plain bs=acc:=by
      rw[hpl];exact if_neg fun z=>hd2 (by rw[hd] at z;exact Option.some.inj z)
     rw[←e];exact k l hl
end
theorem any_range:∀bs:List Bool,((List.range bs.length).any fun i=>(bs[i]?).getD false)=bs.any id:=by
 intro bs;rw[Bool.eq_iff_iff,List.any_eq_true,List.any_eq_true];constructor
 ·rintro⟨i,hi,e⟩;rw[List.mem_range] at hi;rw[List.getElem?_eq_getElem hi] at e;exact⟨bs[i],List.getElem_mem hi,e⟩
 ·rintro⟨b,hb,e⟩;obtain⟨i,hi,rfl⟩:=List.getElem_of_mem hb;exact⟨i,List.mem_range.mpr hi,by rw[List.getElem?_eq_getElem hi];exact e⟩
theorem ZsS{X:Cx}(hc:X.calm=true):ZbQ X (.builtin "any") (fun xs H Q=>∃(p:Addr)(bs:List Bool),xs=[.ref p]/\SqL X.K H p (bs.map V.bl)/\Q (.bl (bs.any id)) H):=by
 intro pins s σ H xs us Q I r h;obtain⟨p,bs,rfl,hq,q⟩:=h;obtain⟨u,rfl,ru⟩:=vals1 r;cases ru;obtain⟨its,rv,pl,hz⟩:=I.list hq;have hl:=pl.isList;have hlt:p < s.heap.objs.size:=by obtain⟨_,e,_⟩:=hl;exact Heap.lt_size e
 refine call_any_walk (wpAny_pyIter_list hl ?_);refine⟨s.heap.objs.size,[s.heap.objs.size,p],[s.heap.objs.size],its.toArray.size,_,_,fun i=>(bs[i]?).getD false,rfl,PySem.Walks.list (A:=X.A.in1) (I.ok.hd hc) _ p (Nat.ne_of_lt hlt) its.toArray,
  ⟨⟨_,Heap.get?_push_size _ rfl,rfl,rfl⟩,hl.push _⟩,fun i v s' Q' E' hP hQ=>?_,fun h' tk hk=>?_⟩
 ·have hv:its[i]?=some v:=by simpa using hP
  have hi:i < bs.length:=by
   have h1:=(List.getElem?_eq_some_iff.mp hv).1;have h2:=rv.length;rw[List.length_map] at h2;omega
  obtain⟨u,hu,ru⟩:=rv.get (i:=i) (x:=.bl bs[i]) (by rw[List.getElem?_map,List.getElem?_eq_getElem hi];rfl);rw[hv] at hu;cases hu;cases ru;dsimp only at hQ;rw[List.getElem?_eq_getElem hi] at hQ;exact wpAny_truthy_bool hQ
 ·have e:((List.range its.toArray.size).any fun i=>(bs[i]?).getD false)=bs.any id:=by
   have h2:=rv.length;rw[List.length_map] at h2;rw[List.size_toArray,←h2];exact any_range bs
  rw[e];refine⟨.bl (bs.any id),H,I.kept fun b o hb=>hk b o ?_ (Heap.get?_push_of_some _ hb),rfl,q⟩;intro z;have:b=s.heap.objs.size:=by simpa using z
  exact absurd (Heap.lt_size hb) (by rw[this];exact Nat.lt_irrefl _)
def Zej(F:Hp)(v:V)(p:Kgf1.Part):Prop:=∃q,v=.ref q/\F q=some (.tup [iV p.var,iV p.value,.bl p.is])
def Zek(F:Hp)(v:V)(p:Kgf1.Part):Prop:=p.is=true/\∃q,v=.ref q/\F q=some (.tup [iV p.var,iV p.value])
def Zaq(F:Hp)(v:V)(c:Kgf1.Cond):Prop:=∃l refs,v=.ref l/\F l=some (.lst refs)/\Paired (Zej F) refs c
def Zbu(F:Hp)(v:V)(c:Kgf1.Cond):Prop:=∃l refs,v=.ref l/\F l=some (.lst refs)/\Paired (Zek F) refs c
theorem Zej.same{F F':Hp}{v:V}{p:Kgf1.Part}(s:Zc F F')(h:Zej F v p):Zej F' v p:=by
 obtain⟨q,e,h1⟩:=h;exact⟨q,e,s _ _ h1⟩
theorem Zek.same{F F':Hp}{v:V}{p:Kgf1.Part}(s:Zc F F')(h:Zek F v p):Zek F' v p:=by
 obtain⟨i,q,e,h1⟩:=h;exact⟨i,q,e,s _ _ h1⟩
theorem Zaq.same{F F':Hp}{v:V}{c:Kgf1.Cond}(s:Zc F F')(h:Zaq F v c):Zaq F' v c:=by
 obtain⟨l,refs,e,h1,h2⟩:=h;exact⟨l,refs,e,s _ _ h1,Paired.ZP h2 fun _ _ z=>z.same s⟩
theorem Zbu.same{F F':Hp}{v:V}{c:Kgf1.Cond}(s:Zc F F')(h:Zbu F v c):Zbu F' v c:=by
 obtain⟨l,refs,e,h1,h2⟩:=h;exact⟨l,refs,e,s _ _ h1,Paired.ZP h2 fun _ _ z=>z.same s⟩
theorem ZaC{α β:Type}{G:α->β->Prop}:∀{l:List α}{m:List β}{i:Nat}{a:α},Paired G l m->l[i]?=some a->∃b,m[i]?=some b/\G a b
 |_,_,_,_,.nil,e=>by simp at e
 |_,_,0,_,.cons h _,e=>by
  obtain rfl:=Option.some.inj e;exact⟨_,rfl,h⟩
 |_,_,i+1,_,.cons _ t,e=>ZaC (i:=i) t e
def ZbY(n:Nat)(c:Kgf1.Cond):Prop:=∀p∈c,p.var < n
abbrev Zik:Stmt:=top 26
abbrev Zf3:Stmt:=top 27
section
def Zf4(K:PySem.W.Frag):Sp:=fun vs H Q _=>∃(v:V)(c:Kgf1.Cond)(b:Addr)(st:List Nat),vs=[v,.ref b]/\Zaq H v c/\SqL K H b (st.map iV)/\ZbY st.length c/\Q (.bl (Kgf1.holds st c)) H
theorem Zf5:Zo ["condition","state","var","choice","asked"] ["condition","state"] (Zi Zik):=⟨rfl,rfl,rfl,by decide +kernel,rfl,by decide +kernel,by decide +kernel⟩
theorem ZsT(st:List Nat)(c:Kgf1.Cond)(i:Nat)(p:Kgf1.Part)(h:c[i]?=some p):Kgf1.holds st (c.take (i+1))=(Kgf1.holds st (c.take i)&&((st.getD p.var 0==p.value)==p.is)):=by
 rw[List.take_add_one,h];unfold Kgf1.holds;rw[List.all_append];simp
theorem ZsU(st:List Nat)(c:Kgf1.Cond)(i:Nat)(p:Kgf1.Part)(h:c[i]?=some p)(hf:((st.getD p.var 0==p.value)==p.is)=false):Kgf1.holds st c=false:=by
 unfold Kgf1.holds;rw[List.all_eq_false];exact⟨p,List.mem_of_getElem? h,by rw[hf];decide⟩
theorem ZsV(D:Zj K mg "holds" Zik f):Can P w K mg base CX0 1 "holds" ["condition","state"] (Zf4 K):=by
 refine D.can Zf5 (fun _ _ _ _ _ _ us hl=>match us,hl with|[_,_],_=>rfl) (fun vs H Q E h=>?_) (fun cdv A outer s H vs Q E hr h=>?_)
 ·obtain⟨v,c,b,st,rfl,_⟩:=h;rfl
 ·obtain⟨v,c,b,st,rfl,hC,hS,hV,k⟩:=h;obtain⟨l,refs,rfl,hl,hp⟩:=hC;refine⟨_,Ze (Za1 PassesOwn.never rfl (Zaw (pv 0)) (ZbA rfl (Zal (ZL (i:=2) Zf5.nd rfl (Or.inl rfl)) (Zal (ZL (i:=3) Zf5.nd rfl (Or.inl rfl)) (Zal (ZL (i:=4) Zf5.nd rfl (Or.inl rfl)) Zbz))))
    (Zh (Zy (ZC Zdg (Zg3 Z9 (ZG ZO (pv 1) (pv 2) (fun _ _=>rfl)) (pv 3) (Zz _)) (pv 4) (Zz _)) (Zh (Zm ZdM)) ZD)))
   (Zh (Zm ZdM)),?_⟩
  have hlen:refs.length=c.length:=Paired.length hp;refine⟨_,rfl,l,rfl,⟨_,SqL.of hl⟩,Za9 (K:=K) (a:=l) (xs:=refs) (fun i σ H'=>H'=H/\(∃o2 o3 o4,σ=[some (.ref l),some (.ref b),o2,o3,o4])/\Kgf1.holds st (c.take i)=true) ⟨rfl,⟨none,none,none,rfl⟩,rfl⟩ (fun i σ H' _ ⟨e,_⟩=>by rw[e];exact SqL.of hl) ?_ ?_⟩
  ·rintro i x σ H' hx ⟨rfl,⟨o2,o3,o4,rfl⟩,hh⟩;obtain⟨p,hpi,q,rfl,hq⟩:=ZaC hp hx;have hv:=hV p (List.mem_of_getElem? hpi);obtain⟨d,hd⟩:∃d,st[p.var]?=some d:=⟨_,List.getElem?_eq_getElem hv⟩
   have egd:st.getD p.var 0=d:=by rw[List.getD_eq_getElem?_getD,hd];rfl
   refine⟨q,_,rfl,SqT.of hq,rfl,_,_,rfl,_,_,rfl,_,_,rfl,rfl,?_⟩;refine⟨_,rfl,_,rfl,b,_,_,_,rfl,rfl,hS,ZF (Zbe hd),_,rfl,rfl,_,rfl,rfl,_,rfl,?_⟩;have eb:decide (iV d=iV p.value)=(d==p.value):=by
    rw[Bool.eq_iff_iff,decide_eq_true_eq,beq_iff_eq];exact⟨fun z=>by have:=V.int.inj z;omega,fun z=>by rw[z]⟩
   by_cases hm:((d==p.value)==p.is)=true
   ·refine Zbt (by rw[eb,beq_iff_eq.mp hm]) ⟨rfl,⟨_,_,_,rfl⟩,?_⟩;rw[ZsT st c i p hpi,hh,egd,hm];rfl
   ·refine ZbW (fun z=>hm (by rw[eb] at z;rw[V.bl.inj z];exact beq_self_eq_true _)) ?_;rw[ZsU st c i p hpi (by rw[egd];exact Bool.eq_false_iff.mpr hm)] at k;exact k
  ·rintro σ H' ⟨rfl,_,hh⟩;rw[hlen,List.take_length] at hh;rw[hh] at k;exact k
end
structure Zv(K:PySem.W.Frag)(C:Addr)(fields:List Str):Prop where
 cl:Cls K C
 no:∀f∈fields,ZcM K C f
theorem ZA{k x:Str}{v:V}{fs:List (Str×V)}(h:(x==k)=false):((k,v)::fs).lookup x=fs.lookup x:=by
 rw[List.lookup_cons,h]
theorem Zaa{k:Str}{v:V}{fs:List (Str×V)}:((k,v)::fs).lookup k=some v:=by
 rw[List.lookup_cons,beq_self_eq_true]
abbrev Zdz:List Str:=["typed","condition","change","told"]
def Zbm(a b c d:V):List (Str×V):=[("typed",a),("condition",b),("change",c),("told",d)]
theorem Zil(a b c d:V):(Zbm a b c d).lookup ("typed":Str)=some a:=Zaa
theorem Zmy(a b c d:V):(Zbm a b c d).lookup ("condition":Str)=some b:=(ZA (by decide +kernel)).trans Zaa
theorem Zmz(a b c d:V):(Zbm a b c d).lookup ("change":Str)=some c:=(ZA (by decide +kernel)).trans ((ZA (by decide +kernel)).trans Zaa)
theorem Zim(a b c d:V):(Zbm a b c d).lookup ("told":Str)=some d:=(ZA (by decide +kernel)).trans ((ZA (by decide +kernel)).trans ((ZA (by decide +kernel)).trans Zaa))
abbrev Zin:List Str:=["told","condition"]
def ZbL(a b:V):List (Str×V):=[("told",a),("condition",b)]
theorem ZmA(a b:V):(ZbL a b).lookup ("told":Str)=some a:=Zaa
theorem ZsW(a b:V):(ZbL a b).lookup ("condition":Str)=some b:=(ZA (by decide +kernel)).trans Zaa
abbrev Za8:List Str:=["numbers","choices","whens","shows","wons","losts"]
def ZaZ(n c w s o l:Addr):List (Str×V):=[("numbers",.ref n),("choices",.ref c),("whens",.ref w),("shows",.ref s),("wons",.ref o),("losts",.ref l)]
section
variable(n c w s o l:Addr)
theorem Zf6:(ZaZ n c w s o l).lookup ("numbers":Str)=some (.ref n):=Zaa
theorem ZcZ:(ZaZ n c w s o l).lookup ("choices":Str)=some (.ref c):=(ZA (by decide +kernel)).trans Zaa
theorem Zf7:(ZaZ n c w s o l).lookup ("whens":Str)=some (.ref w):=(ZA (by decide +kernel)).trans ((ZA (by decide +kernel)).trans Zaa)
theorem Zio:(ZaZ n c w s o l).lookup ("shows":Str)=some (.ref s):=(ZA (by decide +kernel)).trans ((ZA (by decide +kernel)).trans ((ZA (by decide +kernel)).trans Zaa))
theorem Zf8:(ZaZ n c w s o l).lookup ("wons":Str)=some (.ref o):=(ZA (by decide +kernel)).trans ((ZA (by decide +kernel)).trans ((ZA (by decide +kernel)).trans ((ZA (by decide +kernel)).trans Zaa)))
theorem Zf9:(ZaZ n c w s o l).lookup ("losts":Str)=some (.ref l):=(ZA (by decide +kernel)).trans ((ZA (by decide +kernel)).trans ((ZA (by decide +kernel)).trans ((ZA (by decide +kernel)).trans ((ZA (by decide +kernel)).trans Zaa))))
end
def Zbf(CW:Addr)(F:Hp)(v:V)(x:Kgf1.When):Prop:=∃p dx lt ll vc vd,v=.ref p/\F p=some (.ins CW dx (Zbm (.ref lt) vc vd (.ref ll)))/\F lt=some (.lst (x.words.map iV))/\Zaq F vc x.cond/\Zbu F vd x.change/\F ll=some (.lst (x.text.map iV))
def Zc0(CS:Addr)(F:Hp)(v:V)(x:Kgf1.Show):Prop:=∃p dx ll vc,v=.ref p/\F p=some (.ins CS dx (ZbL (.ref ll) vc))/\F ll=some (.lst (x.text.map iV))/\Zaq F vc x.cond
theorem Zbf.same{CW:Addr}{F F':Hp}{v:V}{x:Kgf1.When}(s:Zc F F')(h:Zbf CW F v x):Zbf CW F' v x:=by
 obtain⟨p,dx,lt,ll,vc,vd,e,h1,h2,h3,h4,h5⟩:=h;exact⟨p,dx,lt,ll,vc,vd,e,s _ _ h1,s _ _ h2,h3.same s,h4.same s,s _ _ h5⟩
theorem Zc0.same{CS:Addr}{F F':Hp}{v:V}{x:Kgf1.Show}(s:Zc F F')(h:Zc0 CS F v x):Zc0 CS F' v x:=by
 obtain⟨p,dx,ll,vc,e,h1,h2,h3⟩:=h;exact⟨p,dx,ll,vc,e,s _ _ h1,s _ _ h2,h3.same s⟩
structure Ads where
 CT:Addr
 CW:Addr
 CS:Addr
 CR:Addr
 CP:Addr
structure Zc1(A:Ads)(F:Hp)(tl:Addr)(t:Kgf1.Tale):Prop where
 ex:∃dx n c w s o l crefs wrefs srefs orefs lrefs,F tl=some (.ins A.CT dx (ZaZ n c w s o l))/\F c=some (.lst crefs)/\crefs.length=t.vars.length/\F w=some (.lst wrefs)/\Paired (Zbf A.CW F) wrefs t.whens /\
  F s=some (.lst srefs)/\Paired (Zc0 A.CS F) srefs t.shows/\F o=some (.lst orefs)/\Paired (Zaq F) orefs t.wons/\F l=some (.lst lrefs)/\Paired (Zaq F) lrefs t.losts
theorem Zc1.same{A:Ads}{F F':Hp}{tl:Addr}{t:Kgf1.Tale}(q:Zc F F')(h:Zc1 A F tl t):Zc1 A F' tl t:=by
 obtain⟨dx,n,c,w,s,o,l,crefs,wrefs,srefs,orefs,lrefs,h1,h2,h3,h4,h5,h6,h7,h8,h9,h10,h11⟩:=h.ex;exact⟨dx,n,c,w,s,o,l,crefs,wrefs,srefs,orefs,lrefs,q _ _ h1,q _ _ h2,h3,q _ _ h4,Paired.ZP h5 fun _ _ z=>z.same q,q _ _ h6,Paired.ZP h7 fun _ _ z=>z.same q,q _ _ h8,Paired.ZP h9 fun _ _ z=>z.same q,q _ _ h10,Paired.ZP h11 fun _ _ z=>z.same q⟩
structure Ze3(t:Kgf1.Tale):Prop where
 vars:t.vars.length<=24
 whens:t.whens.length<=128
 shows:t.shows.length<=64
 wons:t.wons.length<=16
 losts:t.losts.length<=16
 wc:∀x∈t.whens,ZbY t.vars.length x.cond/\ZbY t.vars.length x.change/\x.text.length<=255/\x.words.length<=255
 sc:∀x∈t.shows,ZbY t.vars.length x.cond/\x.text.length<=255
 oc:∀c∈t.wons,ZbY t.vars.length c
 lc:∀c∈t.losts,ZbY t.vars.length c
abbrev Ziq:Stmt:=top 25
abbrev Zir:Stmt:=top 28
section
variable{Ad:Ads}
def Zga(Ad:Ads):Sp:=fun vs H Q _=>∃(tl:Addr)(t:Kgf1.Tale),vs=[.ref tl]/\Zc1 Ad H tl t/\Ze3 t/\∀p H',Zc H H'->H p=none->H' p=some (.lst ((Kgf1.first t).map iV))->Q (.ref p) H'
theorem ZsX:Zo ["tale"] ["tale"] (Zi Ziq):=⟨rfl,rfl,rfl,by decide +kernel,rfl,by decide +kernel,by decide +kernel⟩
theorem Zgb(n:Nat):(List.replicate n [V.int 0]).flatten=List.replicate n (V.int 0):=by
 induction n with
 |zero=>rfl
 |succ n ih=>rw[List.replicate_succ,List.flatten_cons,ih,List.replicate_succ];rfl
theorem ZsY(t:Kgf1.Tale):(Kgf1.first t).map iV=List.replicate t.vars.length (V.int 0):=by
 unfold Kgf1.first;rw[List.map_map];generalize t.vars=l;induction l with
 |nil=>rfl
 |cons a l ih=>rw[List.map_cons,ih];rfl
theorem ZsZ(D:Zj K mg "first_state" Ziq f)(hlen:mg "len"=none)(CT:Zv K Ad.CT Za8):Can P w K mg base CX0 1 "first_state" ["tale"] (Zga Ad):=by
 refine D.can ZsX (fun _ _ _ _ _ _ us hl=>match us,hl with|[_],_=>rfl) (fun vs H Q E h=>?_) (fun cdv A outer s H vs Q E hr h=>?_)
 ·obtain⟨tl,t,rfl,_⟩:=h;rfl
 ·obtain⟨tl,t,rfl,hT,hF,k⟩:=h;obtain⟨dx,n,c,w,s,o,l,crefs,wrefs,srefs,orefs,lrefs,h1,h2,h3,_⟩:=hT.ex;refine⟨_,Zh (Zm (ZY Zhe (ZQ (Za Zr Zb)) (ZN Z0 (by rfl) hlen PySem.boot_len (Za (Zl (pv 0) rfl) Zb)))),?_⟩;refine⟨by show 1<=sizeLine;decide,fun p0 hp0=>?_⟩;have s1:Zc H (upd H p0 (.lst [.int 0])):=Zq hp0;refine⟨_,rfl,tl,Ad.CT,dx,_,_,rfl,s1 _ _ h1,CT.cl,CT.no _ (by decide +kernel),ZcZ ..,c,_,rfl,.inl (SqL.of (s1 _ _ h2)),?_⟩;have big:sizeLine=16777216:=by decide
  have hv:=hF.vars;refine⟨p0,_,_,rfl,rfl,Zd,by omega,by omega,?_,fun p hp=>?_⟩
  ·show 1 * ((crefs.length:Int)).toNat<=sizeLine;rw[Int.toNat_natCast];omega
  ·refine k p _ (s1.trans (Zq hp)) (s1.free hp) ?_;rw[Zd,ZsY,Int.toNat_natCast,Zgb,h3]
end
variable{Ad:Ads}
abbrev iD(c:Nat):PyData:=.int (c:Int)
theorem ZmB:∀as bs:List Nat,PyData.eqvAll (as.map iD) (bs.map iD)=decide (as=bs)
 |[],[]=>by simp[PyData.eqvAll]
 |[],_::_=>by simp[PyData.eqvAll]
 |_::_,[]=>by simp[PyData.eqvAll]
 |a::as,b::bs=>by
  rw[List.map_cons,List.map_cons,PyData.eqvAll,ZmB as bs];have e:PyData.eqv (iD a) (iD b)=decide (a=b):=by
   rw[PyData.eqv,Bool.eq_iff_iff];simp only[beq_iff_eq,decide_eq_true_eq];omega
  rw[e,Bool.eq_iff_iff];simp
theorem ZmC(as bs:List Nat):PyData.eqv (.list (as.map iD)) (.list (bs.map iD))=decide (as=bs):=by
 rw[PyData.eqv];exact ZmB as bs
theorem ZmD{K:PySem.W.Frag}{H:Hp}:∀as:List Nat,Zdo K H (as.map iV) (as.map iD)
 |[]=>.nil
 |a::as=>.cons (.int _) (ZmD as)
theorem Zgc{K:PySem.W.Frag}{H:Hp}{a:Addr}{as:List Nat}(h:SqL K H a (as.map iV)):Dp K H (.ref a) (.list (as.map iD)):=.lst h (ZmD as)
theorem Zgd:∀as:List Nat,SeqAt.shaped (.list (as.map iD))=true:=by
 intro as;induction as with
 |nil=>rfl
 |cons a as ih=>simp[SeqAt.shaped] at ih ⊢;exact ih
abbrev Zge:Stmt:=top 29
abbrev Zis:Stmt:=top 30
abbrev Zit:Stmt:=top 31
abbrev Ziu:Stmt:=top 32
theorem Z2{α β:Type}{G:α->β->Prop}{l:List α}{m:List β}(h:Paired G l m):l.length=m.length:=Paired.length h
section
def ZmE(K:PySem.W.Frag):Sp:=fun vs H Q _=>∃(l b:Addr)(refs:List V)(cs:List Kgf1.Cond)(st:List Nat),vs=[.ref l,.ref b]/\H l=some (.lst refs)/\Paired (Zaq H) refs cs/\SqL K H b (st.map iV)/\(∀c∈cs,ZbY st.length c)/\cs.length<=30000/\∀H',Zc H H'->Q (.bl (cs.any (Kgf1.holds st))) H'
theorem Ziv:Zo ["conditions","state","condition"] ["conditions","state"] (Zi Zf3):=⟨rfl,rfl,rfl,by decide +kernel,rfl,by decide +kernel,by decide +kernel⟩
def Zs0:Scope:={ kind:=.function,names:=[(".0",.local),("condition",.local),("holds",.globalImplicit),("state",.free)],isGenerator:=false,isCoroutine:=false }
theorem Zs1:ZaT ["conditions","state","condition"] (Zi Zf3) Zs0 [("condition",2)]:=⟨rfl,by decide +kernel,by decide +kernel,by decide +kernel,by decide +kernel⟩
theorem Zs2(D:Zj K mg "some_holds" Zf3 f)(hany:mg "any"=none)(F1:Can P w K mg base CX0 1 "holds" ["condition","state"] (Zf4 K)):Can P w K mg base CX0 2 "some_holds" ["conditions","state"] (ZmE K):=by
 refine D.can Ziv (fun _ _ _ _ _ _ us hl=>match us,hl with|[_,_],_=>rfl) (fun vs H Q E h=>?_) (fun cdv A outer s H vs Q E hr h=>?_)
 ·obtain⟨l,b,refs,cs,st,rfl,_⟩:=h;rfl
 ·obtain⟨l,b,refs,cs,st,rfl,hl,hp,hS,hV,hz,k⟩:=h;refine⟨_,Zh (Zm (ZN (ZsS rfl) (by rfl) hany (show bootBuiltins "any"=some (.builtin "any") by decide +kernel) (Za (Zbr (own:=[("condition",2)]) rfl Ziv.nd (Zaw (pv 0)) Zs1
   (fun _ _ _ _ _=>ZL (i:=2) Ziv.nd rfl (Or.inl rfl)) (fun _ _ _ _ _=>Zb9) (fun _ _ _ _ _=>Zp F1 hr Zs (Za (pv 2) (Za (pv 1) Zb)))) Zb))),?_⟩
  have hlen:=Z2 hp;refine⟨_,rfl,l,rfl,⟨_,SqL.of hl⟩,fun Dl hD=>?_⟩;have s1:∀o,Zc H (upd H Dl o):=fun o=>Zq hD;refine ZcN (K:=K) (a:=l) (xs:=refs) (fun i H'=>H'=upd H Dl (.lst (((cs.take i).map (Kgf1.holds st)).map V.bl))) rfl (fun i H' _ e=>by rw[e];exact SqL.of (s1 _ _ _ hl)) ?_ ?_
  ·rintro i x H' hx rfl;obtain⟨c,hc,hca⟩:=ZaC hp hx;refine⟨rfl,Zmt ?_⟩;refine Zar ⟨_,rfl,_,rfl,x,c,b,st,rfl,hca.same (s1 _),(s1 _).seq hS,hV c (List.mem_of_getElem? hc),_,Zd,?_,?_⟩
   ·rw[List.length_map,List.length_map,List.length_take];have:sizeLine=16777216:=by decide
    omega
   ·rw[Z5,List.take_add_one,hc,List.map_append,List.map_append];rfl
  ·rintro H' rfl;rw[hlen,List.take_length];refine⟨Dl,cs.map (Kgf1.holds st),rfl,SqL.of Zd,?_⟩;have e:(cs.map (Kgf1.holds st)).any id=cs.any (Kgf1.holds st):=by rw[List.any_map];rfl
   rw[e];exact k _ (s1 _)
def Ziw(K:PySem.W.Frag)(Ad:Ads):Sp:=fun vs H Q _=>∃(tl b:Addr)(t:Kgf1.Tale)(st:List Nat),vs=[.ref tl,.ref b]/\Zc1 Ad H tl t/\Ze3 t/\SqL K H b (st.map iV)/\st.length=t.vars.length/\∀H',Zc H H'->Q (iV (Kgf1.status t st)) H'
theorem Zs3:Zo ["tale","state"] ["tale","state"] (Zi Zir):=⟨rfl,rfl,rfl,by decide +kernel,rfl,by decide +kernel,by decide +kernel⟩
theorem Zs4(D:Zj K mg "status_of" Zir f)(CT:Zv K Ad.CT Za8)(hL:GI mg "LOST" 2)(hW:GI mg "WON" 1)(hG:GI mg "GOES_ON" 0)(F1:Can P w K mg base CX0 2 "some_holds" ["conditions","state"] (ZmE K)) :
  Can P w K mg base CX0 3 "status_of" ["tale","state"] (Ziw K Ad):=by
 refine D.can Zs3 (fun _ _ _ _ _ _ us hl=>match us,hl with|[_,_],_=>rfl) (fun vs H Q E h=>?_) (fun cdv A outer s H vs Q E hr h=>?_)
 ·obtain⟨tl,b,t,st,rfl,_⟩:=h;rfl
 ·obtain⟨tl,b,t,st,rfl,hT,hF,hS,hn,k⟩:=h;refine⟨_,Ze (Zy (Zam (Zp F1 hr Zs (Za (Zl (pv 0) rfl) (Za (pv 1) Zb)))) (Zh (Zm (Zu hL))) ZD)
   (Ze (Zy (Zam (Zp F1 hr Zs (Za (Zl (pv 0) rfl) (Za (pv 1) Zb)))) (Zh (Zm (Zu hW))) ZD)
   (Zh (Zm (Zu hG)))),?_⟩
  obtain⟨dx,n,c,w,s,o,l,crefs,wrefs,srefs,orefs,lrefs,h1,h2,h3,h4,h5,h6,h7,h8,h9,h10,h11⟩:=hT.ex;have z1:=hF.losts;have z2:=hF.wons;refine⟨_,rfl,tl,Ad.CT,dx,_,_,rfl,h1,CT.cl,CT.no _ (by decide +kernel),Zf9 ..,_,rfl,l,b,lrefs,t.losts,st,rfl,h10,h11,hS,(fun c hc=>by rw[hn];exact hF.lc c hc),by omega,fun H1 s1=>⟨_,rfl,?_⟩⟩;unfold Kgf1.status at k;cases q1:t.losts.any (Kgf1.holds st) with
  |true =>
   refine Zar ?_;rw[if_pos q1] at k;exact k H1 s1
  |false =>
   rw[if_neg (by rw[q1];decide)] at k;refine ZW ⟨_,rfl,tl,Ad.CT,dx,_,_,rfl,s1 _ _ h1,CT.cl,CT.no _ (by decide +kernel),Zf8 ..,_,rfl,o,b,orefs,t.wons,st,rfl,s1 _ _ h8,Paired.ZP h9 fun _ _ z=>z.same s1,s1.seq hS,(fun c hc=>by rw[hn];exact hF.oc c hc),by omega,fun H2 s2=>⟨_,rfl,?_⟩⟩;cases q2:t.wons.any (Kgf1.holds st) with
   |true =>
    refine Zar ?_;rw[if_pos q2] at k;exact k H2 (s1.trans s2)
   |false =>
    rw[if_neg (by rw[q2];decide)] at k;exact ZW (k H2 (s1.trans s2))
end
section
def ZmF(K:PySem.W.Frag)(Ad:Ads):Sp:=fun vs H Q _=>∃(tl b:Addr)(t:Kgf1.Tale)(wd:List Nat),vs=[.ref tl,.ref b]/\Zc1 Ad H tl t/\Ze3 t/\SqL K H b (wd.map iV) /\
 ∀p refs H',Zc H H'->H' p=some (.lst refs)->Paired (Zbf Ad.CW H') refs (t.whens.filter fun x=>x.words==wd)->Q (.ref p) H'
theorem Zix:Zo ["tale","typed","when"] ["tale","typed"] (Zi Zge):=⟨rfl,rfl,rfl,by decide +kernel,rfl,by decide +kernel,by decide +kernel⟩
def Zs5:Scope:={ kind:=.function,names:=[(".0",.local),("when",.local),("typed",.free)],isGenerator:=false,isCoroutine:=false }
theorem Zs6:ZaT ["tale","typed","when"] (Zi Zge) Zs5 [("when",2)]:=⟨rfl,by decide +kernel,by decide +kernel,by decide +kernel,by decide +kernel⟩
theorem ZmG{α:Type}(p:α->Bool)(l:List α)(i:Nat)(x:α)(h:l[i]?=some x):(l.take (i+1)).filter p=(l.take i).filter p++(if p x=true then[x] else[]):=by
 rw[List.take_add_one,h,List.filter_append];congr 1;show List.filter p [x]=_;rw[List.filter_cons];rfl
theorem Zs7(D:Zj K mg "whens_typed" Zge f)(CT:Zv K Ad.CT Za8)(CW:Zv K Ad.CW Zdz):Can P w K mg base CX0 1 "whens_typed" ["tale","typed"] (ZmF K Ad):=by
 refine D.can Zix (fun _ _ _ _ _ _ us hl=>match us,hl with|[_,_],_=>rfl) (fun vs H Q E h=>?_) (fun cdv A outer s H vs Q E hr h=>?_)
 ·obtain⟨tl,b,t,wd,rfl,_⟩:=h;rfl
 ·obtain⟨tl,b,t,wd,rfl,hT,hF,hS,k⟩:=h;refine⟨_,Zh (Zm (Zbr (own:=[("when",2)]) (tt:=ZcL (tOp (ZkJ K) (Zbo K (ZH 2) "typed") (ZH 1))) rfl Zix.nd (Zaw (Zl (pv 0) rfl)) Zs6
   (fun _ _ _ _ _=>ZL (i:=2) Zix.nd rfl (Or.inl rfl)) (fun _ _ _ _ _=>ZeK (ZC (Zp7 hr.units) (Zl (pv 2) rfl) (pv 1) (Zz _))) (fun _ _ _ _ _=>pv 2))),?_⟩
  obtain⟨dx,n,c,w,s,o,l,crefs,wrefs,srefs,orefs,lrefs,h1,h2,h3,h4,h5,_⟩:=hT.ex;have hlen:=Z2 h5;have hz:=hF.whens;refine⟨_,rfl,tl,Ad.CT,dx,_,_,rfl,h1,CT.cl,CT.no _ (by decide +kernel),Zf7 ..,w,rfl,⟨_,SqL.of h4⟩,fun Dl hD=>?_⟩;have s1:∀o,Zc H (upd H Dl o):=fun o=>Zq hD;refine ZcN (K:=K) (a:=w) (xs:=wrefs) (fun i H'=>∃acc,H'=upd H Dl (.lst acc)/\acc.length<=i/\i<=128/\Paired (Zbf Ad.CW H) acc ((t.whens.take i).filter fun x=>x.words==wd)) ⟨[],rfl,Nat.le_refl _,by omega,.nil⟩ (fun i H' _ ⟨acc,e,_⟩=>by rw[e];exact SqL.of (s1 _ _ _ h4)) ?_ ?_
  ·rintro i x H' hx ⟨acc,rfl,ha,hi,hp⟩;obtain⟨y,hy,hya⟩:=ZaC h5 hx;have hil:i < t.whens.length:=(List.getElem?_eq_some_iff.mp hy).1;obtain⟨p,dy,lt,ll,vc,vd,rfl,g1,g2,g3,g4,g5⟩:=id hya;refine⟨rfl,_,rfl,p,Ad.CW,dy,_,_,rfl,s1 _ _ _ g1,CW.cl,CW.no _ (by decide +kernel),Zil ..,_,rfl,_,_,Zgc (SqL.of (s1 _ _ _ g2)),Zgc ((s1 _).seq hS),Zgd _,Zgd _,_,rfl,?_⟩;have ef:=ZmG (fun x:Kgf1.When=>x.words==wd) t.whens i y hy;rw[ZmC];by_cases hq:y.words=wd
   ·refine ifD hq ⟨_,rfl,acc,Zd,?_,acc++[.ref p],by rw[Z5],?_,by omega,?_⟩
    ·have:sizeLine=16777216:=by decide
     omega
    ·rw[List.length_append];show acc.length+1<=i+1;omega
    ·rw[ef,if_pos (by simpa using hq)];exact Paired.snoc hp hya
   ·refine ifN hq ⟨acc,rfl,by omega,by omega,?_⟩;rw[ef,if_neg (by simpa using hq),List.append_nil];exact hp
  ·rintro H' ⟨acc,rfl,ha,hi,hp⟩;rw[hlen,List.take_length] at hp;exact k Dl acc _ (s1 _) Zd (Paired.ZP hp fun _ _ z=>z.same (s1 _))
def ZmH(K:PySem.W.Frag)(Ad:Ads):Sp:=fun vs H Q _=>∃(l b:Addr)(refs:List V)(ws:List Kgf1.When)(st:List Nat),vs=[.ref l,.ref b]/\H l=some (.lst refs)/\Paired (Zbf Ad.CW H) refs ws/\SqL K H b (st.map iV)/\(∀x∈ws,ZbY st.length x.cond) /\
 match ws.find? fun x=>Kgf1.holds st x.cond with
 |none=>Q .non H
 |some x=>∀v,Zbf Ad.CW H v x->Q v H
theorem ZmI:Zo ["whens","state","when"] ["whens","state"] (Zi Zis):=⟨rfl,rfl,rfl,by decide +kernel,rfl,by decide +kernel,by decide +kernel⟩
theorem Zs8{α:Type}{p:α->Bool}{l:List α}{i:Nat}{x:α}(h:l[i]?=some x)(hp:p x=true)(hn:∀y∈l.take i,p y=false):l.find? p=some x:=by
 have e:l=l.take i++x::l.drop (i+1):=by
  obtain⟨hi,ex⟩:=List.getElem?_eq_some_iff.mp h;rw[←ex,←List.drop_eq_getElem_cons hi,List.take_append_drop]
 rw[e,List.find?_append];have e1:(l.take i).find? p=none:=List.find?_eq_none.mpr fun y hy=>by rw[hn y hy];decide
 rw[e1,List.find?_cons,hp];rfl
theorem Zs9(D:Zj K mg "first_to_do" Zis f)(CW:Zv K Ad.CW Zdz)(F1:Can P w K mg base CX0 1 "holds" ["condition","state"] (Zf4 K)):Can P w K mg base CX0 2 "first_to_do" ["whens","state"] (ZmH K Ad):=by
 refine D.can ZmI (fun _ _ _ _ _ _ us hl=>match us,hl with|[_,_],_=>rfl) (fun vs H Q E h=>?_) (fun cdv A outer s H vs Q E hr h=>?_)
 ·obtain⟨l,b,refs,ws,st,rfl,_⟩:=h;rfl
 ·obtain⟨l,b,refs,ws,st,rfl,hl,hp,hS,hV,k⟩:=h;refine⟨_,Ze (Za1 PassesOwn.never rfl (Zaw (pv 0)) (ZL (i:=2) ZmI.nd rfl (Or.inl rfl))
   (Zh (Zy (Zam (Zp F1 hr Zs (Za (Zl (pv 2) rfl) (Za (pv 1) Zb)))) (Zh (Zm (pv 2))) ZD))) (Zh (Zm ZdN)),?_⟩
  have hlen:=Z2 hp;refine⟨_,rfl,l,rfl,⟨_,SqL.of hl⟩,Za9 (K:=K) (a:=l) (xs:=refs) (fun i σ H'=>H'=H/\(∃o2,σ=[some (.ref l),some (.ref b),o2])/\∀y∈ws.take i,Kgf1.holds st y.cond=false) ⟨rfl,⟨none,rfl⟩,by simp⟩ (fun i σ H' _ ⟨e,_⟩=>by rw[e];exact SqL.of hl) ?_ ?_⟩
  ·rintro i x σ H' hx ⟨rfl,⟨o2,rfl⟩,hn⟩;obtain⟨y,hy,hya⟩:=ZaC hp hx;obtain⟨p,dy,lt,ll,vc,vd,rfl,g1,g2,g3,g4,g5⟩:=id hya;refine⟨_,rfl,p,Ad.CW,dy,_,_,rfl,g1,CW.cl,CW.no _ (by decide +kernel),Zmy ..,_,rfl,vc,y.cond,b,st,rfl,g3,hS,hV y (List.mem_of_getElem? hy),_,rfl,?_⟩;cases hq:Kgf1.holds st y.cond with
   |true =>
    refine Zar ⟨_,rfl,?_⟩;rw[Zs8 (p:=fun x:Kgf1.When=>Kgf1.holds st x.cond) hy hq hn] at k;exact k _ hya
   |false =>
    refine ZW ⟨rfl,⟨_,rfl⟩,fun z hz=>?_⟩;rw[List.take_add_one,hy] at hz;rcases List.mem_append.mp hz with hz|hz
    ·exact hn z hz
    ·have:z=y:=by simpa using hz
     rw[this];exact hq
  ·rintro σ H' ⟨rfl,_,hn⟩;rw[hlen,List.take_length] at hn;have e:ws.find? (fun x=>Kgf1.holds st x.cond)=none:=List.find?_eq_none.mpr fun y hy=>by rw[hn y hy];decide
   rw[e] at k;exact k
def ZmJ(K:PySem.W.Frag):Sp:=fun vs H Q _=>∃(v:V)(c:Kgf1.Cond)(b:Addr)(st:List Nat),vs=[v,.ref b]/\Zbu H v c/\SqL K H b (st.map iV)/\ZbY st.length c/\∀p,H p=none->Q (.ref p) (upd H p (.lst ((Kgf1.changed st c).map iV)))
theorem Zgf:Zo ["change","state","behind","var","choice"] ["change","state"] (Zi Zit):=⟨rfl,rfl,rfl,by decide +kernel,rfl,by decide +kernel,by decide +kernel⟩
theorem ZmK(st:List Nat)(c:Kgf1.Cond):(Kgf1.changed st c).length=st.length:=by
 unfold Kgf1.changed;induction c generalizing st with
 |nil=>rfl
 |cons p c ih=>rw[List.foldl_cons,ih,List.length_set]
theorem Zta(st:List Nat)(c:Kgf1.Cond)(i:Nat)(p:Kgf1.Part)(h:c[i]?=some p):Kgf1.changed st (c.take (i+1))=(Kgf1.changed st (c.take i)).set p.var p.value:=by
 unfold Kgf1.changed;rw[List.take_add_one,h,List.foldl_append];rfl
theorem Ztb(D:Zj K mg "state_behind" Zit f)(hlist:mg "list"=none):Can P w K mg base CX0 1 "state_behind" ["change","state"] (ZmJ K):=by
 refine D.can Zgf (fun _ _ _ _ _ _ us hl=>match us,hl with|[_,_],_=>rfl) (fun vs H Q E h=>?_) (fun cdv A outer s H vs Q E hr h=>?_)
 ·obtain⟨v,c,b,st,rfl,_⟩:=h;rfl
 ·obtain⟨v,c,b,st,rfl,hC,hS,hV,k⟩:=h;obtain⟨l,refs,rfl,hl,hp⟩:=hC;refine⟨_,Ze (Zx (i:=2) Zgf.nd rfl (Or.inl rfl) (Zfw ZpO (by rfl) hlist (show bootBuiltins "list"=some (.type "list") by decide +kernel) (Za (pv 1) Zb)))
   (Ze (Za1 PassesOwn.never rfl (Zaw (pv 0)) (ZbA rfl (Zal (ZL (i:=3) Zgf.nd rfl (Or.inl rfl)) (Zal (ZL (i:=4) Zgf.nd rfl (Or.inl rfl)) Zbz)))
    (Zh (Zj7 (pv 4) (Zj6 (pv 2) (pv 3) set_list))))
   (Zh (Zm (pv 2)))),?_⟩
  have hlen:=Z2 hp;refine⟨_,rfl,b,_,rfl,.inl hS,fun p0 hp0=>?_⟩;have s1:∀o,Zc H (upd H p0 o):=fun o=>Zq hp0;refine⟨_,rfl,l,rfl,⟨_,SqL.of (s1 _ _ _ hl)⟩,Za9 (K:=K) (a:=l) (xs:=refs) (fun i σ H'=>H'=upd H p0 (.lst ((Kgf1.changed st (c.take i)).map iV))/\∃o3 o4,σ=[some (.ref l),some (.ref b),some (.ref p0),o3,o4]) ⟨rfl,none,none,rfl⟩ (fun i σ H' _ ⟨e,_⟩=>by rw[e];exact SqL.of (s1 _ _ _ hl)) ?_ ?_⟩
  ·rintro i x σ H' hx ⟨rfl,o3,o4,rfl⟩;obtain⟨q,hq,hqi,r,rfl,hr2⟩:=ZaC hp hx;have hv:=hV q (List.mem_of_getElem? hq);refine⟨r,_,rfl,SqT.of (s1 _ _ _ hr2),rfl,_,_,rfl,_,_,rfl,rfl,?_⟩;refine⟨_,rfl,_,rfl,_,rfl,p0,_,_,q.var,rfl,rfl,Zd,?_,?_,_,_,rfl⟩
   ·unfold ixN;rw[map_len,ZmK,if_pos (by omega),if_pos (by omega)];rfl
   ·rw[Z5,Zta st c i q hq,List.map_set]
  ·rintro σ H' ⟨rfl,o3,o4,rfl⟩;rw[hlen,List.take_length];exact⟨_,rfl,k p0 hp0⟩
def Zcx(t:Kgf1.Tale)(st:List Nat):List Nat:=(t.shows.filter fun y=>Kgf1.holds st y.cond).flatMap fun y=>10::y.text
def ZmL(K:PySem.W.Frag)(Ad:Ads):Sp:=fun vs H Q _=>∃(tl b:Addr)(t:Kgf1.Tale)(st:List Nat),vs=[.ref tl,.ref b]/\Zc1 Ad H tl t/\Ze3 t/\SqL K H b (st.map iV)/\st.length=t.vars.length/\∀p,H p=none->Q (.ref p) (upd H p (.lst ((Zcx t st).map iV)))
theorem Ziy:Zo ["tale","state","told","show"] ["tale","state"] (Zi Ziu):=⟨rfl,rfl,rfl,by decide +kernel,rfl,by decide +kernel,by decide +kernel⟩
theorem ZmM(l:List Kgf1.Show)(h:∀y∈l,y.text.length<=255):(l.flatMap fun y=>10::y.text).length<=256 * l.length:=by
 induction l with
 |nil=>exact Nat.le_refl _
 |cons a l ih =>
  rw[List.flatMap_cons,List.length_append,List.length_cons,List.length_cons];have:=ih fun y hy=>h y (List.mem_cons_of_mem _ hy);have:=h a List.mem_cons_self;omega
theorem Ztc(D:Zj K mg "shown" Ziu f)(CT:Zv K Ad.CT Za8)(CS:Zv K Ad.CS Zin)(hLF:GI mg "LINE_FEED" 10)(F1:Can P w K mg base CX0 1 "holds" ["condition","state"] (Zf4 K)):Can P w K mg base CX0 2 "shown" ["tale","state"] (ZmL K Ad):=by
 refine D.can Ziy (fun _ _ _ _ _ _ us hl=>match us,hl with|[_,_],_=>rfl) (fun vs H Q E h=>?_) (fun cdv A outer s H vs Q E hr h=>?_)
 ·obtain⟨tl,b,t,st,rfl,_⟩:=h;rfl
 ·obtain⟨tl,b,t,st,rfl,hT,hF,hS,hn,k⟩:=h;refine⟨_,Ze (Zx (i:=2) Ziy.nd rfl (Or.inl rfl) (ZQ Zb))
   (Ze (Za1 PassesOwn.never rfl (Zaw (Zl (pv 0) rfl)) (ZL (i:=3) Ziy.nd rfl (Or.inl rfl))
    (Zh (Zy (Zam (Zp F1 hr Zs (Za (Zl (pv 3) rfl) (Za (pv 1) Zb))))
     (Ze (ZK (Zax PySem.F.plainAttrs_list PySem.F.slot_list_append PySem.F.type_list_append ZaQ (pv 2) (Za (Zu hLF) Zb)))
     (Zh (ZK (Zax PySem.F.plainAttrs_list PySem.F.slot_list_extend PySem.F.type_list_extend Zhd (pv 2) (Za (Zl (pv 3) rfl) Zb))))) ZD)))
   (Zh (Zm (pv 2)))),?_⟩
  obtain⟨dx,n,c,w,s,o,l,crefs,wrefs,srefs,orefs,lrefs,h1,h2,h3,h4,h5,h6,h7,_⟩:=hT.ex;have hlen:=Z2 h7;have hz:=hF.shows;have big:sizeLine=16777216:=by decide
  refine⟨by show 0<=sizeLine;decide,fun p0 hp0=>?_⟩;have s1:∀o,Zc H (upd H p0 o):=fun o=>Zq hp0;refine⟨_,rfl,tl,Ad.CT,dx,_,_,rfl,s1 _ _ _ h1,CT.cl,CT.no _ (by decide +kernel),Zio ..,s,rfl,⟨_,SqL.of (s1 _ _ _ h6)⟩,?_⟩;refine Za9 (K:=K) (a:=s) (xs:=srefs) (fun i σ H'=>H'=upd H p0 (.lst ((((t.shows.take i).filter fun y=>Kgf1.holds st y.cond).flatMap fun y=>10::y.text).map iV))/\∃o3,σ=[some (.ref tl),some (.ref b),some (.ref p0),o3]) ⟨rfl,none,rfl⟩ (fun i σ H' _ ⟨e,_⟩=>by rw[e];exact SqL.of (s1 _ _ _ h6)) ?_ ?_
  ·rintro i x σ H' hx ⟨rfl,o3,rfl⟩;obtain⟨y,hy,hya⟩:=ZaC h7 hx;obtain⟨p,dy,ll,vc,rfl,g1,g2,g3⟩:=id hya;have hmem:=List.mem_of_getElem? hy;have hlt:∀z∈(t.shows.take i).filter (fun y=>Kgf1.holds st y.cond),z.text.length<=255:=fun z hz=>(hF.sc z (List.mem_of_mem_take (List.mem_filter.mp hz).1)).2;have hle:(((t.shows.take i).filter fun y=>Kgf1.holds st y.cond).flatMap fun y=>10::y.text).length<=256 * 64:=by
    have a1:=ZmM _ hlt;have a2:=List.length_filter_le (fun y=>Kgf1.holds st y.cond) (t.shows.take i);rw[List.length_take] at a2;omega
   have ef:=ZmG (fun y:Kgf1.Show=>Kgf1.holds st y.cond) t.shows i y hy;generalize hacc:(((t.shows.take i).filter fun y=>Kgf1.holds st y.cond).flatMap fun y=>10::y.text)=acc at hle ⊢;refine⟨_,rfl,p,Ad.CS,dy,_,_,rfl,s1 _ _ _ g1,CS.cl,CS.no _ (by decide +kernel),ZsW ..,_,rfl,vc,y.cond,b,st,rfl,g3.same (s1 _),(s1 _).seq hS,(by rw[hn];exact(hF.sc y hmem).1),_,rfl,?_⟩;cases hq:Kgf1.holds st y.cond with
   |true =>
    have e1:(((t.shows.take (i+1)).filter fun y=>Kgf1.holds st y.cond).flatMap fun y=>10::y.text)=acc++(10::y.text):=by
     rw[ef,if_pos hq,List.flatMap_append,hacc];simp
    refine Zar ⟨_,rfl,.inl ⟨rfl,_,SqL.of Zd⟩,p0,_,_,rfl,rfl,Zd,by rw[map_len];omega,?_⟩;rw[Z5];have hpl:ll≠p0:=Zk g2 hp0;refine⟨_,rfl,.inl ⟨rfl,_,SqL.of Zd⟩,_,rfl,p,Ad.CS,dy,_,_,rfl,s1 _ _ _ g1,CS.cl,CS.no _ (by decide +kernel),ZmA ..,p0,ll,_,_,rfl,rfl,Zd,s1 _ _ _ g2,?_,?_,_,rfl⟩
    ·have:=(hF.sc y hmem).2;rw[List.length_append,map_len,map_len];show acc.length+1+y.text.length<=sizeLine;omega
    ·rw[Z5,e1,List.map_append,List.append_assoc];rfl
   |false =>
    refine ZW ⟨?_,_,rfl⟩;rw[ef,if_neg (by rw[hq];decide),List.append_nil,hacc]
  ·rintro σ H' ⟨rfl,o3,rfl⟩;rw[hlen,List.take_length];exact⟨_,rfl,k p0 hp0⟩
end
theorem ZE{f k:Str}{v u:V}{r:List (Str×V)}(h:¬k=f):Zw f v ((k,u)::r)=(k,u)::Zw f v r:=by
 show(if k=f then _ else _)=_;rw[if_neg h]
theorem Zel{f:Str}{v u:V}{r:List (Str×V)}:Zw f v ((f,u)::r)=(f,v)::r:=by
 show(if f=f then _ else _)=_;rw[if_pos rfl]
abbrev Ziz:Stmt:=inClass (top 46) 0
abbrev ZiA:Stmt:=inClass (top 47) 0
abbrev ZiB:Stmt:=inClass (top 48) 0
abbrev ZiC:Stmt:=inClass (top 49) 0
abbrev ZiD:Stmt:=inClass (top 49) 1
abbrev ZiE:Stmt:=inClass (top 49) 2
abbrev ZiF:Stmt:=inClass (top 49) 3
abbrev ZiG:Stmt:=inClass (top 49) 4
abbrev ZiH:Stmt:=inClass (top 49) 5
section
def ZmN(C:Addr):Sp:=fun vs H Q _=>∃(p dx:Addr)(a b c d:V),vs=[.ref p,a,b,c,d]/\H p=some (.ins C dx [])/\Q .non (upd H p (.ins C dx (Zbm a b c d)))
theorem Ztd:Zo ["self","typed","condition","change","told"] ["self","typed","condition","change","told"] (Zi Ziz):=⟨rfl,rfl,rfl,by decide +kernel,rfl,by decide +kernel,by decide +kernel⟩
theorem Zte(a b c d:V):Zw "told" d (Zw "change" c (Zw "condition" b (Zw "typed" a [])))=Zbm a b c d:=by
 have s1:Zw "typed" a []=[(("typed":Str),a)]:=rfl;have s2:Zw "condition" b [(("typed":Str),a)]=[(("typed":Str),a),(("condition":Str),b)]:=by
  rw[ZE (by decide +kernel)];rfl
 have s3:Zw "change" c [(("typed":Str),a),(("condition":Str),b)]=[(("typed":Str),a),(("condition":Str),b),(("change":Str),c)]:=by
  rw[ZE (by decide +kernel),ZE (by decide +kernel)];rfl
 rw[s1,s2,s3,ZE (by decide +kernel),ZE (by decide +kernel),ZE (by decide +kernel)];rfl
theorem Ztf{x:Str}(D:MethAt K Ad.CW "__init__" "When.__init__" Ziz f)(hm:mg x=some (.ref Ad.CW))(mk:PySem.W.makesIn K Ad.CW=true)(kc:PySem.W.keepIn K (.ref Ad.CW)=true)(CW:Zv K Ad.CW Zdz) :
  ZaS P w K mg base CX0 1 x Ad.CW ["self","typed","condition","change","told"] (ZmN Ad.CW):=by
 refine D.ZcX hm mk kc Ztd (fun _ _ _ _ _ _ us hl=>match us,hl with|[_,_,_,_,_],_=>rfl) (fun vs H Q E h=>?_) (fun cdv A outer s H vs Q E hr h=>?_)
 ·obtain⟨p,dx,a,b,c,d,rfl,_⟩:=h;rfl
 ·obtain⟨p,dx,a,b,c,d,rfl,hp,k⟩:=h;refine⟨_,Ze (Z4 (pv 0) (pv 1) rfl) (Ze (Z4 (pv 0) (pv 2) rfl) (Ze (Z4 (pv 0) (pv 3) rfl) (Zh (Z4 (pv 0) (pv 4) rfl)))),?_⟩;refine⟨_,rfl,_,rfl,p,Ad.CW,dx,_,rfl,hp,CW.cl,CW.no _ (by decide +kernel),(by show 0 < 1000;decide),?_⟩;refine⟨_,rfl,_,rfl,p,Ad.CW,dx,_,rfl,Zd,CW.cl,CW.no _ (by decide +kernel),(by show 1 < 1000;decide),?_⟩;refine⟨_,rfl,_,rfl,p,Ad.CW,dx,_,rfl,Zd,CW.cl,CW.no _ (by decide +kernel),Nat.lt_of_le_of_lt (ZdV ..) (by show 2 < 1000;decide),?_⟩;refine⟨_,rfl,_,rfl,p,Ad.CW,dx,_,rfl,Zd,CW.cl,CW.no _ (by decide +kernel),Nat.lt_of_le_of_lt (ZdV ..) (Nat.lt_of_le_of_lt (Nat.succ_le_succ (ZdV ..)) (by show 3 < 1000;decide)),?_⟩;rw[Z5,Z5,Z5,Zte];exact k
def ZmO(C:Addr):Sp:=fun vs H Q _=>∃(p dx:Addr)(a b:V),vs=[.ref p,a,b]/\H p=some (.ins C dx [])/\Q .non (upd H p (.ins C dx (ZbL a b)))
theorem Ztg:Zo ["self","told","condition"] ["self","told","condition"] (Zi ZiA):=⟨rfl,rfl,rfl,by decide +kernel,rfl,by decide +kernel,by decide +kernel⟩
theorem Zth(a b:V):Zw "condition" b (Zw "told" a [])=ZbL a b:=by
 have e1:Zw "told" a []=[(("told":Str),a)]:=rfl;rw[e1,ZE (by decide +kernel)];rfl
theorem Zti{x:Str}(D:MethAt K Ad.CS "__init__" "Show.__init__" ZiA f)(hm:mg x=some (.ref Ad.CS))(mk:PySem.W.makesIn K Ad.CS=true)(kc:PySem.W.keepIn K (.ref Ad.CS)=true)(CS:Zv K Ad.CS Zin) :
  ZaS P w K mg base CX0 1 x Ad.CS ["self","told","condition"] (ZmO Ad.CS):=by
 refine D.ZcX hm mk kc Ztg (fun _ _ _ _ _ _ us hl=>match us,hl with|[_,_,_],_=>rfl) (fun vs H Q E h=>?_) (fun cdv A outer s H vs Q E hr h=>?_)
 ·obtain⟨p,dx,a,b,rfl,_⟩:=h;rfl
 ·obtain⟨p,dx,a,b,rfl,hp,k⟩:=h;refine⟨_,Ze (Z4 (pv 0) (pv 1) rfl) (Zh (Z4 (pv 0) (pv 2) rfl)),?_⟩;refine⟨_,rfl,_,rfl,p,Ad.CS,dx,_,rfl,hp,CS.cl,CS.no _ (by decide +kernel),(by show 0 < 1000;decide),?_⟩;refine⟨_,rfl,_,rfl,p,Ad.CS,dx,_,rfl,Zd,CS.cl,CS.no _ (by decide +kernel),(by show 1 < 1000;decide),?_⟩;rw[Z5,Zth];exact k
abbrev rdF:List Str:=["words","place"]
def Zan(lw:Addr)(i:Nat):List (Str×V):=[("words",.ref lw),("place",iV i)]
theorem Zgg(lw:Addr)(i:Nat):(Zan lw i).lookup ("words":Str)=some (.ref lw):=Zaa
theorem Zem(lw:Addr)(i:Nat):(Zan lw i).lookup ("place":Str)=some (iV i):=(ZA (by decide +kernel)).trans Zaa
theorem Zai(lw:Addr)(i:Nat){m:Str}(h1:(m==("words":Str))=false)(h2:(m==("place":Str))=false):(Zan lw i).lookup m=none:=(ZA h1).trans (ZA h2)
theorem ZmP(lw:Addr)(i j:Nat):Zw "place" (iV j) (Zan lw i)=Zan lw j:=by
 unfold Zan;rw[ZE (by decide +kernel),Zel]
def ZmQ(C:Addr):Sp:=fun vs H Q _=>∃(p dx lw:Addr),vs=[.ref p,.ref lw]/\H p=some (.ins C dx [])/\Q .non (upd H p (.ins C dx (Zan lw 0)))
theorem Ztj:Zo ["self","words"] ["self","words"] (Zi ZiC):=⟨rfl,rfl,rfl,by decide +kernel,rfl,by decide +kernel,by decide +kernel⟩
theorem Ztk{x:Str}(D:MethAt K Ad.CR "__init__" "Reader.__init__" ZiC f)(hm:mg x=some (.ref Ad.CR))(mk:PySem.W.makesIn K Ad.CR=true)(kc:PySem.W.keepIn K (.ref Ad.CR)=true)(CR:Zv K Ad.CR rdF) :
  ZaS P w K mg base CX0 1 x Ad.CR ["self","words"] (ZmQ Ad.CR):=by
 refine D.ZcX hm mk kc Ztj (fun _ _ _ _ _ _ us hl=>match us,hl with|[_,_],_=>rfl) (fun vs H Q E h=>?_) (fun cdv A outer s H vs Q E hr h=>?_)
 ·obtain⟨p,dx,lw,rfl,_⟩:=h;rfl
 ·obtain⟨p,dx,lw,rfl,hp,k⟩:=h;refine⟨_,Ze (Z4 (pv 0) (pv 1) rfl) (Zh (Z4 (pv 0) Zr rfl)),?_⟩;refine⟨_,rfl,_,rfl,p,Ad.CR,dx,_,rfl,hp,CR.cl,CR.no _ (by decide +kernel),(by show 0 < 1000;decide),?_⟩;refine⟨_,rfl,p,Ad.CR,dx,_,rfl,Zd,CR.cl,CR.no _ (by decide +kernel),(by show 1 < 1000;decide),?_⟩;rw[Z5];have e:Zw "place" (V.int 0) (Zw "words" (V.ref lw) [])=Zan lw 0:=by
   have e1:Zw "words" (V.ref lw) []=[(("words":Str),V.ref lw)]:=rfl;rw[e1,ZE (by decide +kernel)];rfl
  rw[e];exact k
structure ZT(Ad:Ads)(G H:Hp)(r:Addr)(ts:List Kgf1.Tok)(i:Nat)(dx lw:Addr):Prop where
 ob:H r=some (.ins Ad.CR dx (Zan lw i))
 gr:G r=none
 gh:Zc G H
 wsG:∃refs,G lw=some (.lst refs)/\Zcw G refs ts
 le:i<=ts.length
 big:ts.length<=30000
 sh:Tl.short ts
theorem ZT.ws{G H:Hp}{r dx lw:Addr}{ts:List Kgf1.Tok}{i:Nat}(h:ZT Ad G H r ts i dx lw):∃refs,H lw=some (.lst refs)/\Zcw H refs ts:=by
 obtain⟨refs,h1,h2⟩:=h.wsG;exact⟨refs,h.gh _ _ h1,Paired.ZP h2 fun _ _ z=>z.same h.gh⟩
theorem ZT.moved{G H:Hp}{r dx lw:Addr}{ts:List Kgf1.Tok}{i j:Nat}(h:ZT Ad G H r ts i dx lw)(hj:j<=ts.length):ZT Ad G (upd H r (.ins Ad.CR dx (Zan lw j))) r ts j dx lw :=
 ⟨Zd,h.gr,fun a o e=>by rw[Zf (Zk e h.gr)];exact h.gh _ _ e,h.wsG,hj,h.big,h.sh⟩
def ZiI(Ad:Ads):Sp:=fun vs H Q _=>∃G r ts i dx lw,vs=[.ref r]/\ZT Ad G H r ts i dx lw/\Q (.bl (decide (i=ts.length))) H
theorem Ztl:Zo ["self"] ["self"] (Zi ZiD):=⟨rfl,rfl,rfl,by decide +kernel,rfl,by decide +kernel,by decide +kernel⟩
theorem Ztm(D:MethAt K Ad.CR "done" "Reader.done" ZiD f)(CR:Zv K Ad.CR rdF)(hlen:mg "len"=none):ZV P w K mg base CX0 1 Ad.CR "done" ["self"] (ZiI Ad):=by
 refine D.can Ztl (fun _ _ _ _ _ _ us hl=>match us,hl with|[_],_=>rfl) (fun vs H Q E h=>?_) (fun cdv A outer s H vs Q E hr h=>?_)
 ·obtain⟨G,r,ts,i,dx,lw,rfl,_⟩:=h;rfl
 ·obtain⟨G,r,ts,i,dx,lw,rfl,hR,k⟩:=h;obtain⟨refs,h1,h2⟩:=hR.ws;refine⟨_,Zh (Zm (Zg3 Z9 (Zl (pv 0) rfl) (ZN Z0 (by rfl) hlen PySem.boot_len (Za (Zl (pv 0) rfl) Zb)) (Zz _))),?_⟩;refine⟨_,rfl,r,Ad.CR,dx,_,_,rfl,hR.ob,CR.cl,CR.no _ (by decide +kernel),Zem ..,_,rfl,r,Ad.CR,dx,_,_,rfl,hR.ob,CR.cl,CR.no _ (by decide +kernel),Zgg ..,lw,_,rfl,.inl (SqL.of h1),rfl,?_⟩;have e:decide (iV i=V.int (refs.length:Int))=decide (i=ts.length):=decide_eq_decide.mpr (by rw[Z2 h2];constructor;(intro z;have:=Zau.mp z;omega);(intro z;exact Zau.mpr (by omega)));show Q (.bl (decide (iV i=V.int (refs.length:Int)))) H;rw[e];exact k
def kindOf:Kgf1.Tok->Str
 |.name _=>"name"
 |.str _=>"string"
 |.eq=>"="
 |.semi=>";"
def ZmR(H:Hp)(v:V):Kgf1.Tok->Prop
 |.name b=>v=.str ⟨b.toArray⟩
 |.str b=>∃l,v=.ref l/\H l=some (.lst (b.map iV))
 |.eq=>v=.str "="
 |.semi=>v=.str ";"
theorem ZmS{H:Hp}{v:V}{t:Kgf1.Tok}(h:Zeh H v t):∃p u,v=.ref p/\H p=some (.tup [.str (kindOf t),u])/\ZmR H u t:=by
 cases t with
 |name b=>obtain⟨p,e,q⟩:=h;exact⟨p,_,e,q,rfl⟩
 |str b=>obtain⟨p,l,e,q,q2⟩:=h;exact⟨p,_,e,q,l,rfl,q2⟩
 |eq=>obtain⟨p,e,q⟩:=h;exact⟨p,_,e,q,rfl⟩
 |semi=>obtain⟨p,e,q⟩:=h;exact⟨p,_,e,q,rfl⟩
def ZaM(ts:List Kgf1.Tok)(i:Nat)(k:Str):Bool:=match ts[i]? with
 |some t=>decide (kindOf t=k)
 |none=>false
def Zgh(Ad:Ads):Sp:=fun vs H Q _=>∃G r ts i dx lw kd,vs=[.ref r,.str kd]/\ZT Ad G H r ts i dx lw/\Q (.bl (ZaM ts i kd)) H
theorem Ztn:Zo ["self","kind"] ["self","kind"] (Zi ZiE):=⟨rfl,rfl,rfl,by decide +kernel,rfl,by decide +kernel,by decide +kernel⟩
theorem Zto{a b:Str}:decide (V.str a=V.str b)=decide (a=b):=decide_eq_decide.mpr ⟨V.str.inj,congrArg V.str⟩
theorem Ztp(D:MethAt K Ad.CR "sees" "Reader.sees" ZiE f)(CR:Zv K Ad.CR rdF)(F1:ZV P w K mg base CX0 1 Ad.CR "done" ["self"] (ZiI Ad)):ZV P w K mg base CX0 2 Ad.CR "sees" ["self","kind"] (Zgh Ad):=by
 refine D.can Ztn (fun _ _ _ _ _ _ us hl=>match us,hl with|[_,_],_=>rfl) (fun vs H Q E h=>?_) (fun cdv A outer s H vs Q E hr h=>?_)
 ·obtain⟨G,r,ts,i,dx,lw,kd,rfl,_⟩:=h;rfl
 ·obtain⟨G,r,ts,i,dx,lw,kd,rfl,hR,k⟩:=h;obtain⟨refs,h1,h2⟩:=hR.ws;refine⟨_,Zh (Zm (ZoI (ZoJ (Zed (pv 0) CR.cl F1 hr Zs)) (ZoH (Zg3 Z9 (ZG Zfy (ZG ZO (Zl (pv 0) rfl) (Zl (pv 0) rfl) (fun _ _=>rfl)) Zr (fun _ _=>rfl)) (pv 1) (Zz _))))),?_⟩;refine⟨_,rfl,r,dx,_,rfl,hR.ob,Zai _ _ (by decide +kernel) (by decide +kernel),G,r,ts,i,dx,lw,rfl,hR,_,rfl,_,rfl,?_⟩;by_cases hi:i=ts.length
  ·have e:ZaM ts i kd=false:=by
    unfold ZaM;rw[List.getElem?_eq_none_iff.mpr (by omega)]
   rw[e] at k;exact Zbt hi k
  ·have hlt:i < ts.length:=by have:=hR.le;omega
   obtain⟨v,hv⟩:∃v,refs[i]?=some v:=⟨_,List.getElem?_eq_getElem (by rw[Z2 h2];exact hlt)⟩
   obtain⟨t,ht,hta⟩:=ZaC h2 hv;obtain⟨p,u,rfl,hp,hu⟩:=ZmS hta;have e:ZaM ts i kd=decide (kindOf t=kd):=by
    unfold ZaM;rw[ht]
   rw[e] at k;refine ZbW hi ⟨_,rfl,r,Ad.CR,dx,_,_,rfl,hR.ob,CR.cl,CR.no _ (by decide +kernel),Zgg ..,_,rfl,r,Ad.CR,dx,_,_,rfl,hR.ob,CR.cl,CR.no _ (by decide +kernel),Zem ..,lw,_,_,_,rfl,rfl,SqL.of h1,ZF hv,p,_,_,_,rfl,rfl,SqT.of hp,ZF (j:=0) rfl,_,rfl,rfl,?_⟩;show Q (.bl (decide (V.str (kindOf t)=V.str kd))) H;rw[Zto];exact k
end
abbrev ZiJ:Stmt:=top 50
theorem Zgi{b:List Nat}{s:String}:((⟨b.toArray⟩:Str)=Str.ofString s)↔b=Kgf1.ascii s:=by
 constructor
 ·intro h;have:=congrArg TL.tl h;rw[TL.Zk0] at this;exact this
 ·intro h;refine TL.ZkY ?_;rw[TL.Zk0];exact h
abbrev Rm(Ad:Ads)(H:Hp)(r dx lw:Addr)(j:Nat):Hp:=upd H r (.ins Ad.CR dx (Zan lw j))
section
def ZiK(Ad:Ads)(C:Addr):Sp:=fun vs H Q E=>∃G r ts i dx lw kd,vs=[.ref r,.str kd]/\ZT Ad G H r ts i dx lw /\
 (∀t v,ts[i]?=some t->kindOf t=kd->ZmR G v t->Q v (Rm Ad H r dx lw (i+1)))/\(ZaM ts i kd=false->E (.ref C) none H)
theorem Ztq:Zo ["self","kind"] ["self","kind"] (Zi ZiF):=⟨rfl,rfl,rfl,by decide +kernel,rfl,by decide +kernel,by decide +kernel⟩
theorem Ztr(D:MethAt K Ad.CR "take" "Reader.take" ZiF f)(NE:NT K mg C)(CR:Zv K Ad.CR rdF)(F1:ZV P w K mg base CX0 2 Ad.CR "sees" ["self","kind"] (Zgh Ad)):ZV P w K mg base (CX1 P w) 3 Ad.CR "take" ["self","kind"] (ZiK Ad C):=by
 refine D.Zap Ztq (fun _ _ _ _ _ _ us hl=>match us,hl with|[_,_],_=>rfl) (fun vs H Q E h=>?_) (fun cdv A outer s H vs Q E hr h=>?_)
 ·obtain⟨G,r,ts,i,dx,lw,kd,rfl,_⟩:=h;rfl
 ·obtain⟨G,r,ts,i,dx,lw,kd,rfl,hR,k1,k2⟩:=h;obtain⟨refs,g1,h2⟩:=hR.wsG;have h1:=hR.gh _ _ g1;refine⟨_,Ze (Zy (ZcI (Zam (Z8 (pv 0) CR.cl F1 hr Zs (Za (pv 1) Zb)))) (Zh (Zbd Zt NE)) ZD)
   (Ze (Zko (pv 0) Zr Zkp) (Zh (Zm (ZG Zfy (ZG ZO (Zl (pv 0) rfl) (ZY Zb5 (Zl (pv 0) rfl) Zr) (fun _ _=>rfl)) Zr (fun _ _=>rfl))))),?_⟩
  refine⟨_,rfl,r,dx,_,rfl,hR.ob,Zai _ _ (by decide +kernel) (by decide +kernel),_,rfl,G,r,ts,i,dx,lw,kd,rfl,hR,_,rfl,?_⟩;cases hq:ZaM ts i kd with
  |false=>exact ifB rfl (k2 hq)
  |true =>
   obtain⟨t,ht,hk⟩:∃t,ts[i]?=some t/\kindOf t=kd:=by
    unfold ZaM at hq;split at hq
    ·rename_i t e;exact⟨t,e,of_decide_eq_true hq⟩
    ·cases hq
   have hlt:i < ts.length:=(List.getElem?_eq_some_iff.mp ht).1;obtain⟨v,hv⟩:∃v,refs[i]?=some v:=⟨_,List.getElem?_eq_getElem (by rw[Z2 h2];exact hlt)⟩
   obtain⟨t',ht',hta⟩:=ZaC h2 hv;rw[ht] at ht';cases ht';obtain⟨p,u,rfl,gp,hu⟩:=ZmS hta;have hp:=hR.gh _ _ gp;refine ifF rfl ⟨_,rfl,r,Ad.CR,dx,_,_,rfl,hR.ob,CR.cl,CR.no _ (by decide +kernel),Zem ..,_,_,rfl,rfl,dx,_,hR.ob,(by show 2 < 1000;decide),?_⟩;have e1:Zw "place" (V.int ((i:Int)+1)) (Zan lw i)=Zan lw (i+1):=ZmP lw i (i+1);rw[e1];have hlr:lw≠r:=Z6 h1 hR.ob (by intro z;cases z);have hpr:p≠r:=Z6 hp hR.ob (by intro z;cases z);refine⟨_,rfl,r,Ad.CR,dx,_,_,rfl,Zd,CR.cl,CR.no _ (by decide +kernel),Zgg ..,_,rfl,r,Ad.CR,dx,_,_,rfl,Zd,CR.cl,CR.no _ (by decide +kernel),Zem ..,_,_,rfl,rfl,lw,refs,_,_,rfl,rfl,SqL.of (by rw[Zf hlr];exact h1),at_of (by show((i+1:Nat):Int) - 1=((i:Nat):Int);omega) hv,p,_,_,_,rfl,rfl,SqT.of (by rw[Zf hpr];exact hp),ZF (j:=1) rfl,?_⟩;exact k1 t u ht hk hu
def ZiL(Ad:Ads):Sp:=fun vs H Q _=>∃G r ts i dx lw s,vs=[.ref r,.str (Str.ofString s)]/\ZT Ad G H r ts i dx lw /\
 (ts[i]?=some (Kgf1.kw s)->Q (.bl true) (Rm Ad H r dx lw (i+1)))/\(ts[i]?≠some (Kgf1.kw s)->Q (.bl false) H)
theorem Zts:Zo ["self","name"] ["self","name"] (Zi ZiG):=⟨rfl,rfl,rfl,by decide +kernel,rfl,by decide +kernel,by decide +kernel⟩
theorem Ze4{t:Kgf1.Tok}(h:kindOf t=("name":Str)):∃b,t=.name b:=by
 cases t with
 |name b=>exact⟨b,rfl⟩
 |str b=>exact absurd h (by show¬(("string":Str)="name");decide +kernel)
 |eq=>exact absurd h (by show¬(("=":Str)="name");decide +kernel)
 |semi=>exact absurd h (by show¬((";":Str)="name");decide +kernel)
theorem Ztt(D:MethAt K Ad.CR "passes" "Reader.passes" ZiG f)(CR:Zv K Ad.CR rdF)(F1:ZV P w K mg base CX0 2 Ad.CR "sees" ["self","kind"] (Zgh Ad)):ZV P w K mg base CX0 3 Ad.CR "passes" ["self","name"] (ZiL Ad):=by
 refine D.can Zts (fun _ _ _ _ _ _ us hl=>match us,hl with|[_,_],_=>rfl) (fun vs H Q E h=>?_) (fun cdv A outer s H vs Q E hr h=>?_)
 ·obtain⟨G,r,ts,i,dx,lw,kd,rfl,_⟩:=h;rfl
 ·obtain⟨G,r,ts,i,dx,lw,nm,rfl,hR,k1,k2⟩:=h;obtain⟨refs,h1,h2⟩:=hR.ws;refine⟨_,Ze (Zy (ZdR (Zam (Z8 (pv 0) CR.cl F1 hr Zs (Za Zad Zb))) (ZdQ (ZC Z9 (ZG Zfy (ZG ZO (Zl (pv 0) rfl) (Zl (pv 0) rfl) (fun _ _=>rfl)) Zr (fun _ _=>rfl)) (pv 1) (Zz _)))).pt
    (Ze (Zko (pv 0) Zr Zkp) (Zh (Zm ZdM))) ZD) (Zh (Zm ZdM)),?_⟩
  refine⟨_,rfl,r,dx,_,rfl,hR.ob,Zai _ _ (by decide +kernel) (by decide +kernel),G,r,ts,i,dx,lw,"name",rfl,hR,_,rfl,?_⟩;cases hq:ZaM ts i "name" with
  |false =>
   have hne:ts[i]?≠some (Kgf1.kw nm):=fun z=>by
    unfold ZaM at hq;rw[z] at hq;exact absurd hq (by show¬(decide (("name":Str)="name")=false);decide +kernel)
   exact ZW (ZW (k2 hne))
  |true =>
   obtain⟨t,ht,hk⟩:∃t,ts[i]?=some t/\kindOf t=("name":Str):=by
    unfold ZaM at hq;split at hq
    ·rename_i t e;exact⟨t,e,of_decide_eq_true hq⟩
    ·cases hq
   obtain⟨b,rfl⟩:=Ze4 hk;have hlt:i < ts.length:=(List.getElem?_eq_some_iff.mp ht).1;obtain⟨v,hv⟩:∃v,refs[i]?=some v:=⟨_,List.getElem?_eq_getElem (by rw[Z2 h2];exact hlt)⟩
   obtain⟨t',ht',hta⟩:=ZaC h2 hv;rw[ht] at ht';cases ht';obtain⟨p,rfl,hp⟩:=hta;refine Zar ⟨_,rfl,r,Ad.CR,dx,_,_,rfl,hR.ob,CR.cl,CR.no _ (by decide +kernel),Zgg ..,_,rfl,r,Ad.CR,dx,_,_,rfl,hR.ob,CR.cl,CR.no _ (by decide +kernel),Zem ..,lw,_,_,_,rfl,rfl,SqL.of h1,ZF hv,p,_,_,_,rfl,rfl,SqT.of hp,ZF (j:=1) rfl,_,rfl,rfl,_,rfl,?_⟩;by_cases hb:b=Kgf1.ascii nm
   ·refine ifD (congrArg V.str (Zgi.mpr hb)) ⟨_,rfl,r,Ad.CR,dx,_,_,rfl,hR.ob,CR.cl,CR.no _ (by decide +kernel),Zem ..,_,_,rfl,rfl,dx,_,hR.ob,(by show 2 < 1000;decide),?_⟩;have e1:Zw "place" (V.int ((i:Int)+1)) (Zan lw i)=Zan lw (i+1):=ZmP lw i (i+1);rw[e1];exact k1 (by rw[ht,hb];rfl)
   ·refine ifN (fun z=>hb (Zgi.mp (V.str.inj z))) (k2 fun z=>hb ?_);rw[ht] at z;have z':Kgf1.Tok.name b=.name (Kgf1.ascii nm):=Option.some.inj z;exact Kgf1.Tok.name.inj z'
def ZmT(Ad:Ads)(C:Addr):Sp:=fun vs H Q E=>∃G r ts i dx lw s,vs=[.ref r,.str (Str.ofString s)]/\ZT Ad G H r ts i dx lw /\
 (ts[i]?=some (Kgf1.kw s)->Q .non (Rm Ad H r dx lw (i+1)))/\(ts[i]?≠some (Kgf1.kw s)->E (.ref C) none H)
theorem Ztu:Zo ["self","name"] ["self","name"] (Zi ZiH):=⟨rfl,rfl,rfl,by decide +kernel,rfl,by decide +kernel,by decide +kernel⟩
theorem Ztv(D:MethAt K Ad.CR "need" "Reader.need" ZiH f)(NE:NT K mg C)(CR:Zv K Ad.CR rdF)(F1:ZV P w K mg base CX0 3 Ad.CR "passes" ["self","name"] (ZiL Ad)):ZV P w K mg base (CX1 P w) 4 Ad.CR "need" ["self","name"] (ZmT Ad C):=by
 refine D.Zap Ztu (fun _ _ _ _ _ _ us hl=>match us,hl with|[_,_],_=>rfl) (fun vs H Q E h=>?_) (fun cdv A outer s H vs Q E hr h=>?_)
 ·obtain⟨G,r,ts,i,dx,lw,kd,rfl,_⟩:=h;rfl
 ·obtain⟨G,r,ts,i,dx,lw,nm,rfl,hR,k1,k2⟩:=h;refine⟨_,Zh (Zy (ZcI (Zam (Z8 (pv 0) CR.cl F1 hr Zs (Za (pv 1) Zb)))) (Zh (Zbd Zt NE)) ZD),?_⟩;exact⟨_,rfl,r,dx,_,rfl,hR.ob,Zai _ _ (by decide +kernel) (by decide +kernel),_,rfl,G,r,ts,i,dx,lw,nm,rfl,hR,fun h=>⟨_,rfl,ifF rfl (k1 h)⟩,fun h=>⟨_,rfl,ifB rfl (k2 h)⟩⟩
def Zgj(C:Addr):Sp:=fun vs H Q E=>∃c lo hi:Int,vs=[.int c,.int lo,.int hi]/\(lo<=c->c<=hi->Q .non H)/\(¬(lo<=c/\c<=hi)->E (.ref C) none H)
theorem Ztw:Zo ["count","least","most"] ["count","least","most"] (Zi ZiJ):=⟨rfl,rfl,rfl,by decide +kernel,rfl,by decide +kernel,by decide +kernel⟩
theorem Ztx(D:Zj K mg "check_count" ZiJ f)(NE:NT K mg C):Can P w K mg base (CX1 P w) 1 "check_count" ["count","least","most"] (Zgj C):=by
 refine D.Zap Ztw (fun _ _ _ _ _ _ us hl=>match us,hl with|[_,_,_],_=>rfl) (fun vs H Q E h=>?_) (fun cdv A outer s H vs Q E hr h=>?_)
 ·obtain⟨c,lo,hi,rfl,_⟩:=h;rfl
 ·obtain⟨c,lo,hi,rfl,k1,k2⟩:=h;refine⟨_,Zh (Zy (ZcI (Zkh ZbR ZbR (pv 1) (pv 0) (pv 2))) (Zh (Zbd Zt NE)) ZD),?_⟩;refine⟨_,rfl,_,rfl,_,_,rfl,rfl,_,rfl,?_⟩;by_cases h1:lo<=c
  ·refine ifD h1 ⟨_,rfl,_,_,rfl,rfl,_,rfl,?_⟩;by_cases h2:c<=hi
   ·exact Zbt h2 (k1 h1 h2)
   ·exact ZbW h2 (k2 fun z=>h2 z.2)
  ·exact ifN h1 ⟨_,rfl,ifB rfl (k2 fun z=>h1 z.1)⟩
def ZmU(Ad:Ads):Sp:=fun vs H Q _=>∃p dx:Addr,vs=[.ref p]/\H p=some (.ins Ad.CT dx []) /\
 ∀n c w s o l,H n=none->H c=none->H w=none->H s=none->H o=none->H l=none->[n,c,w,s,o,l].Nodup ->
  Q .non (upd (upd (upd (upd (upd (upd (upd H n (.dK [])) c (.lst [])) w (.lst [])) s (.lst [])) o (.lst [])) l (.lst [])) p (.ins Ad.CT dx (ZaZ n c w s o l)))
theorem Zty:Zo ["self"] ["self"] (Zi ZiB):=⟨rfl,rfl,rfl,by decide +kernel,rfl,by decide +kernel,by decide +kernel⟩
theorem ZmV{H:Hp}{a b:Addr}{x y:HO}(h:a≠b):upd (upd H a x) b y=upd (upd H b y) a x:=by
 funext c;unfold upd;by_cases h1:c=a
 ·subst h1;rw[if_neg h,if_pos rfl,if_pos rfl]
 ·rw[if_neg h1];split<;>first|rfl|rw[if_neg h1]
end
section
theorem Zbg{fs:List (Str×V)}{f:Str}{v:V}{n:Nat}(h:fs.length<=n):(Zw f v fs).length<=n+1:=Nat.le_trans (ZdV ..) (Nat.succ_le_succ h)
theorem ZdA{H:Hp}{p c:Addr}{a b d:HO}(h:c≠p):upd (upd (upd H p a) c b) p d=upd (upd H c b) p d:=by
 rw[ZmV (a:=p) (b:=c) (Ne.symm h),Z5]
theorem Z3{H:Hp}{p c:Addr}{o:HO}(h:upd H p o c=none):c≠p/\H c=none:=by
 have hc:c≠p:=fun z=>by rw[z,Zd] at h;cases h
 rw[Zf hc] at h;exact⟨hc,h⟩
theorem Ztz(n c w s o l:Addr):Zw "losts" (.ref l) (Zw "wons" (.ref o) (Zw "shows" (.ref s) (Zw "whens" (.ref w) (Zw "choices" (.ref c) (Zw "numbers" (.ref n) [])))))=ZaZ n c w s o l:=by
 have s1:Zw "numbers" (.ref n) []=[(("numbers":Str),V.ref n)]:=rfl;have s2:Zw "choices" (.ref c) [(("numbers":Str),V.ref n)]=[(("numbers":Str),V.ref n),(("choices":Str),V.ref c)]:=by
  rw[ZE (by decide +kernel)];rfl
 have s3:Zw "whens" (.ref w) [(("numbers":Str),V.ref n),(("choices":Str),V.ref c)]=[(("numbers":Str),V.ref n),(("choices":Str),V.ref c),(("whens":Str),V.ref w)]:=by
  rw[ZE (by decide +kernel),ZE (by decide +kernel)];rfl
 have s4:Zw "shows" (.ref s) [(("numbers":Str),V.ref n),(("choices":Str),V.ref c),(("whens":Str),V.ref w)]=[(("numbers":Str),V.ref n),(("choices":Str),V.ref c),(("whens":Str),V.ref w),(("shows":Str),V.ref s)]:=by
  rw[ZE (by decide +kernel),ZE (by decide +kernel),ZE (by decide +kernel)];rfl
 have s5:Zw "wons" (.ref o) [(("numbers":Str),V.ref n),(("choices":Str),V.ref c),(("whens":Str),V.ref w),(("shows":Str),V.ref s)]=[(("numbers":Str),V.ref n),(("choices":Str),V.ref c),(("whens":Str),V.ref w),(("shows":Str),V.ref s),(("wons":Str),V.ref o)]:=by
  rw[ZE (by decide +kernel),ZE (by decide +kernel),ZE (by decide +kernel),ZE (by decide +kernel)];rfl
 rw[s1,s2,s3,s4,s5,ZE (by decide +kernel),ZE (by decide +kernel),ZE (by decide +kernel),ZE (by decide +kernel),ZE (by decide +kernel)];rfl
theorem ZtA{x:Str}(D:MethAt K Ad.CT "__init__" "Tale.__init__" ZiB f)(hm:mg x=some (.ref Ad.CT))(mk:PySem.W.makesIn K Ad.CT=true)(kc:PySem.W.keepIn K (.ref Ad.CT)=true)(CT:Zv K Ad.CT Za8) :
  ZaS P w K mg base CX0 1 x Ad.CT ["self"] (ZmU Ad):=by
 refine D.ZcX hm mk kc Zty (fun _ _ _ _ _ _ us hl=>match us,hl with|[_],_=>rfl) (fun vs H Q E h=>?_) (fun cdv A outer s H vs Q E hr h=>?_)
 ·obtain⟨p,dx,rfl,_⟩:=h;rfl
 ·obtain⟨p,dx,rfl,hp,k⟩:=h;refine⟨_,Ze (Z4 (pv 0) ZfG rfl) (Ze (Z4 (pv 0) (ZQ Zb) rfl) (Ze (Z4 (pv 0) (ZQ Zb) rfl) (Ze (Z4 (pv 0) (ZQ Zb) rfl) (Ze (Z4 (pv 0) (ZQ Zb) rfl) (Zh (Z4 (pv 0) (ZQ Zb) rfl)))))),?_⟩;have z0:([]:List V).length<=sizeLine:=by show 0<=sizeLine;decide
  intro n hn;have np:n≠p:=(Zk hp hn).symm;refine⟨_,rfl,p,Ad.CT,dx,_,rfl,(by rw[Zf np.symm];exact hp),CT.cl,CT.no _ (by decide +kernel),(by show 0 < 1000;decide),?_⟩;refine⟨z0,fun c hc=>?_⟩;obtain⟨cp,hc1⟩:=Z3 hc;obtain⟨cn,hc2⟩:=Z3 hc1;refine⟨_,rfl,p,Ad.CT,dx,_,rfl,(by rw[Zf cp.symm,Zd]),CT.cl,CT.no _ (by decide +kernel),Nat.lt_of_le_of_lt (Zbg (Nat.le_refl _)) (by decide),?_⟩;rw[ZdA cp];refine⟨z0,fun w hw=>?_⟩;obtain⟨wp,hw1⟩:=Z3 hw;obtain⟨wc,hw2⟩:=Z3 hw1;obtain⟨wn,hw3⟩:=Z3 hw2;refine⟨_,rfl,p,Ad.CT,dx,_,rfl,(by rw[Zf wp.symm,Zd]),CT.cl,CT.no _ (by decide +kernel),Nat.lt_of_le_of_lt (Zbg (Zbg (Nat.le_refl _))) (by decide),?_⟩;rw[ZdA wp];refine⟨z0,fun s hs=>?_⟩;obtain⟨sp,hs1⟩:=Z3 hs;obtain⟨sw,hs2⟩:=Z3 hs1;obtain⟨sc,hs3⟩:=Z3 hs2;obtain⟨sn,hs4⟩:=Z3 hs3;refine⟨_,rfl,p,Ad.CT,dx,_,rfl,(by rw[Zf sp.symm,Zd]),CT.cl,CT.no _ (by decide +kernel),Nat.lt_of_le_of_lt (Zbg (Zbg (Zbg (Nat.le_refl _)))) (by decide),?_⟩;rw[ZdA sp];refine⟨z0,fun o ho=>?_⟩;obtain⟨op,ho1⟩:=Z3 ho;obtain⟨os,ho2⟩:=Z3 ho1;obtain⟨ow,ho3⟩:=Z3 ho2;obtain⟨oc,ho4⟩:=Z3 ho3;obtain⟨on,ho5⟩:=Z3 ho4;refine⟨_,rfl,p,Ad.CT,dx,_,rfl,(by rw[Zf op.symm,Zd]),CT.cl,CT.no _ (by decide +kernel),Nat.lt_of_le_of_lt (Zbg (Zbg (Zbg (Zbg (Nat.le_refl _))))) (by decide),?_⟩;rw[ZdA op];refine⟨z0,fun l hl=>?_⟩;obtain⟨lp,hl1⟩:=Z3 hl;obtain⟨lo,hl2⟩:=Z3 hl1;obtain⟨ls,hl3⟩:=Z3 hl2;obtain⟨lw,hl4⟩:=Z3 hl3;obtain⟨lc,hl5⟩:=Z3 hl4;obtain⟨ln,hl6⟩:=Z3 hl5;refine⟨_,rfl,p,Ad.CT,dx,_,rfl,(by rw[Zf lp.symm,Zd]),CT.cl,CT.no _ (by decide +kernel),Nat.lt_of_le_of_lt (Zbg (Zbg (Zbg (Zbg (Zbg (Nat.le_refl _)))))) (by decide),?_⟩;rw[ZdA lp,Ztz];refine k n c w s o l hn hc2 hw3 hs4 ho5 hl6 ?_;simp only[List.nodup_cons,List.mem_cons,List.not_mem_nil,or_false,not_or,List.nodup_nil,and_true,not_false_eq_true];exact⟨⟨cn.symm,wn.symm,sn.symm,on.symm,ln.symm⟩,⟨wc.symm,sc.symm,oc.symm,lc.symm⟩,⟨sw.symm,ow.symm,lw.symm⟩,⟨os.symm,ls.symm⟩,lo.symm⟩
end
theorem hu1{k:Nat}{A:Around}(h:ZZ k A):A.units+1 < cLine:=by have:=h.units;omega
structure Step(r:Addr)(G H G' H':Hp):Prop where
 gh:Zc G' H'
 gn:∀a,H a≠none->G' a=G a
 hh:∀a,a≠r->H a≠none->H' a=H a
 hd:∀a,H a≠none->H' a≠none
section
variable{r:Addr}{G H G' H' G1 H1:Hp}
theorem Step.gg(s:Step r G H G' H')(g:Zc G H):Zc G G':=fun a o e=>by
 rw[s.gn a (by rw[g a o e];simp)];exact e
theorem Step.refl(g:Zc G H):Step r G H G H:=⟨g,fun _ _=>rfl,fun _ _ _=>rfl,fun _ h=>h⟩
theorem Step.trans(a:Step r G H G1 H1)(b:Step r G1 H1 G' H'):Step r G H G' H' :=
 ⟨b.gh,fun x h=>(b.gn x (a.hd x h)).trans (a.gn x h),fun x n h=>(b.hh x n (a.hd x h)).trans (a.hh x n h),fun x h=>b.hd x (a.hd x h)⟩
theorem Step.new{p:Addr}(g:Zc G H)(hp:H p=none)(o:HO):Step r G H (upd G p o) (upd H p o):=by
 refine⟨fun a u e=>?_,fun a h=>Zf fun z=>h (by rw[z];exact hp),fun a _ h=>Zf fun z=>h (by rw[z];exact hp),fun a h=>by rw[Zf fun z=>h (by rw[z];exact hp)];exact h⟩;by_cases z:a=p
 ·subst z;rw[Zd] at e ⊢;exact e
 ·rw[Zf z] at e ⊢;exact g _ _ e
variable{Ad:Ads}{ts:List Kgf1.Tok}{i j:Nat}{dx lw:Addr}
theorem Step.move(R:ZT Ad G H r ts i dx lw):Step r G H G (Rm Ad H r dx lw j) :=
 ⟨fun a o e=>by unfold Rm;rw[Zf (Zk e R.gr)];exact R.gh _ _ e,fun _ _=>rfl,fun a n _=>Zf n,fun a h=>by
  unfold Rm;by_cases z:a=r
  ·rw[z,Zd];simp
  ·rw[Zf z];exact h⟩
theorem Zcy{a:Addr}(h:a≠r):Rm Ad H r dx lw j a=H a:=Zf h
theorem Zgk:Rm Ad H r dx lw j r=some (.ins Ad.CR dx (Zan lw j)):=Zd
theorem ZT.mv(R:ZT Ad G H r ts i dx lw)(hj:j<=ts.length):ZT Ad G (Rm Ad H r dx lw j) r ts j dx lw:=R.moved hj
theorem ZT.step(R:ZT Ad G H r ts i dx lw)(s:Step r G H G' H')(e:H' r=some (.ins Ad.CR dx (Zan lw j)))(hj:j<=ts.length):ZT Ad G' H' r ts j dx lw:=by
 obtain⟨refs,h1,h2⟩:=R.wsG;have g:=s.gg R.gh;exact⟨e,by rw[s.gn r (by rw[R.ob];simp)];exact R.gr,s.gh,⟨refs,g _ _ h1,Paired.ZP h2 fun _ _ z=>z.same g⟩,hj,R.big,R.sh⟩
theorem ZT.new{p:Addr}(R:ZT Ad G H r ts i dx lw)(hp:H p=none)(o:HO):ZT Ad (upd G p o) (upd H p o) r ts i dx lw :=
 R.step (Step.new R.gh hp o) (by rw[Zf (Zk R.ob hp)];exact R.ob) R.le
end
theorem ZT.loose{Ad:Ads}{G H:Hp}{r p:Addr}{ts:List Kgf1.Tok}{i:Nat}{dx lw:Addr}(R:ZT Ad G H r ts i dx lw)(hg:G p=none)(hr:r≠p)(o:HO):ZT Ad G (upd H p o) r ts i dx lw :=
 ⟨by rw[Zf hr];exact R.ob,R.gr,fun a u e=>by rw[Zf (Zk e hg)];exact R.gh _ _ e,R.wsG,R.le,R.big,R.sh⟩
structure Rdr(P:Program)(w:World)(K:PySem.W.Frag)(mg:Str->Option Value)(base:Heap)(Ad:Ads)(C:Addr):Prop where
 cl:Zv K Ad.CR rdF
 NE:NT K mg C
 done:ZV P w K mg base CX0 1 Ad.CR "done" ["self"] (ZiI Ad)
 sees:ZV P w K mg base CX0 2 Ad.CR "sees" ["self","kind"] (Zgh Ad)
 take:ZV P w K mg base (CX1 P w) 3 Ad.CR "take" ["self","kind"] (ZiK Ad C)
 passes:ZV P w K mg base CX0 3 Ad.CR "passes" ["self","name"] (ZiL Ad)
 need:ZV P w K mg base (CX1 P w) 4 Ad.CR "need" ["self","name"] (ZmT Ad C)
 check:Can P w K mg base (CX1 P w) 1 "check_count" ["count","least","most"] (Zgj C)
abbrev sK(b:List Nat):Key:=Sum.inr ⟨b.toArray⟩
def kvsOf(l:List Kgf1.Bytes):List (Key×V):=l.zipIdx.map fun x=>(sK x.1,iV x.2)
theorem ZmW{a b:List Nat}:sK a=sK b↔a=b:=by
 constructor
 ·intro h;have h1:=Sum.inr.inj h;have h2:=congrArg TL.tl h1;exact h2
 ·intro h;rw[h]
theorem ZdB(l:List Kgf1.Bytes):(kvsOf l).length=l.length:=by unfold kvsOf;rw[List.length_map,List.length_zipIdx]
theorem ZmX(b:List Nat):∀(l:List Kgf1.Bytes)(k:Nat),Zab ((l.zipIdx k).map fun x=>(sK x.1,iV x.2)) (sK b)=(l.findIdx? fun y=>y==b).map fun i=>iV (i+k)
 |[],_=>rfl
 |a::l,k=>by
  rw[List.zipIdx_cons,List.map_cons,List.findIdx?_cons];by_cases h:a=b
  ·rw[Zdp (ZmW.mpr h),if_pos (by simpa using h)];simp
  ·rw[Zdq (fun z=>h (ZmW.mp z)),ZmX b l (k+1),if_neg (by simpa using h),Option.map_map];congr 1;funext i;show iV (i+(k+1))=iV (i+1+k);congr 1;omega
theorem Zen(b:List Nat)(l:List Kgf1.Bytes):Zab (kvsOf l) (sK b)=(l.findIdx? fun y=>y==b).map iV:=ZmX b l 0
theorem ZiM{α:Type}(p:α->Bool):∀l:List α,(l.findIdx? p).isSome=l.any p
 |[]=>rfl
 |a::l=>by
  rw[List.findIdx?_cons,List.any_cons];cases h:p a with
  |true=>rfl
  |false =>
   rw[Bool.false_or,←ZiM p l];simp
theorem ZmY(b:List Nat)(l:List Kgf1.Bytes):((l.findIdx? fun y=>y==b).map iV).isSome=decide (b∈l):=by
 rw[Option.isSome_map,ZiM,Bool.eq_iff_iff,List.any_eq_true,decide_eq_true_eq];constructor
 ·rintro⟨y,hy,e⟩;rw[←beq_iff_eq.mp e];exact hy
 ·intro h;exact⟨b,h,beq_self_eq_true b⟩
theorem ZmZ{b:List Nat}{l:List Kgf1.Bytes}(h:b∉l):putK (kvsOf l) (sK b) (iV l.length)=kvsOf (l++[b]):=by
 unfold putK;rw[ZdZ,Zen,ZmY,if_neg (by rw[decide_eq_true_eq];exact h)];unfold kvsOf;rw[List.zipIdx_append,List.map_append];congr 1;simp
theorem Zm0:∀(ts:List Kgf1.Tok)(k:Nat)(b:List Nat),(Tl.namesIn ts)[k]?=some b->ts[k]?=some (.name b)
 |.name a::r,0,b,h=>by
  have:some a=some b:=h;cases this;rfl
 |.name a::r,k+1,b,h=>Zm0 r k b h
 |[],_,_,h=>by simp[Tl.namesIn] at h
 |.eq::_,_,_,h=>by simp[Tl.namesIn] at h
 |.semi::_,_,_,h=>by simp[Tl.namesIn] at h
 |.str _::_,_,_,h=>by simp[Tl.namesIn] at h
theorem Zm1:∀(ts:List Kgf1.Tok)(b:List Nat),ts[(Tl.namesIn ts).length]?≠some (.name b)
 |.name a::r,b,h=>Zm1 r b h
 |[],_,h=>by simp[Tl.namesIn] at h
 |.eq::_,_,h=>by simp[Tl.namesIn] at h
 |.semi::_,_,h=>by simp[Tl.namesIn] at h
 |.str _::_,_,h=>by simp[Tl.namesIn] at h
theorem Zgl{ts:List Kgf1.Tok}{i:Nat}{b:List Nat}(h:ts[i]?=some (.name b)):ZaM ts i "name"=true:=by
 unfold ZaM;rw[h];show decide (("name":Str)="name")=true;decide +kernel
theorem ZtB{ts:List Kgf1.Tok}{i:Nat}(h:∀b,ts[i]?≠some (.name b)):ZaM ts i "name"=false:=by
 unfold ZaM;split
 ·rename_i t e;refine decide_eq_false fun z=>?_;obtain⟨b,rfl⟩:=Ze4 z;exact h b e
 ·rfl
abbrev ZiN:Stmt:=top 51
abbrev ZiO:Stmt:=top 52
abbrev ZiP:Stmt:=top 53
abbrev ZiQ:Stmt:=top 54
section
def Zgm(l:List Kgf1.Bytes):Prop:=2<=l.length/\l.length<=16/\l.Nodup
def Zm2(Ad:Ads)(C:Addr):Sp:=fun vs H Q E=>∃G r ts i dx lw,vs=[.ref r]/\ZT Ad G H r ts i dx lw /\
 (Zgm (Tl.namesIn (ts.drop i))->∀d,H d=none->Q (.ref d) (upd (Rm Ad H r dx lw (i+(Tl.namesIn (ts.drop i)).length)) d (.dK (kvsOf (Tl.namesIn (ts.drop i)))))) /\
 (¬Zgm (Tl.namesIn (ts.drop i))->∀H',Zc G H'->E (.ref C) none H')
theorem ZiR:Zo ["reader","choices","choice"] ["reader"] (Zi ZiN):=⟨rfl,rfl,rfl,by decide +kernel,rfl,by decide +kernel,by decide +kernel⟩
theorem ZtC(D:Zj K mg "read_choices" ZiN f)(R:Rdr P w K mg base Ad C)(hlen:mg "len"=none)(hL:GI mg "LEAST_CHOICES" 2)(hM:GI mg "MOST_CHOICES" 16) :
  Can P w K mg base (CX1 P w) 4 "read_choices" ["reader"] (Zm2 Ad C):=by
 refine D.Zap ZiR (fun _ _ _ _ _ _ us hl=>match us,hl with|[_],_=>rfl) (fun vs H Q E h=>?_) (fun cdv A outer s H vs Q E hr h=>?_)
 ·obtain⟨G,r,ts,i,dx,lw,rfl,_⟩:=h;rfl
 ·obtain⟨G,r,ts,i,dx,lw,rfl,hR,k1,k2⟩:=h;have hu:=hu1 hr;refine⟨_,Ze (Zx (i:=1) ZiR.nd rfl (Or.inl rfl) ZfG)
   (Ze (ZbB (Throws.own Zt) (Zam (Z8 (pv 0) R.cl.cl R.sees hr Zs (Za Zad Zb)))
    (Ze (Zx (i:=2) ZiR.nd rfl (Or.inl rfl) (Z8 (pv 0) R.cl.cl R.take hr (ZJ Zt) (Za Zad Zb)))
    (Ze (Zy (Zdd (ZkT hu (pv 2) (pv 1))) (Zh (Zbd Zt R.NE)) ZD)
    (Zh (ZfF hu (pv 1) (pv 2) (ZN Zhu (by rfl) hlen PySem.boot_len (Za (pv 1) Zb)) rfl)))))
   (Ze (ZK (Zp R.check hr (ZJ Zt) (Za (ZN Zhu (by rfl) hlen PySem.boot_len (Za (pv 1) Zb)) (Za (Zu hL) (Za (Zu hM) Zb)))))
   (Zh (Zm (pv 1))))),?_⟩
  intro d hd;have big:sizeLine=16777216:=by decide
  generalize hl:Tl.namesIn (ts.drop i)=l at k1 k2;have hle:i+l.length<=ts.length:=by
   have:=Tl.Zll (ts.drop i);rw[hl,List.length_drop] at this;have:=hR.le;omega
  have hrd:r≠d:=Zk hR.ob hd;have hgd:G d=none:=hR.gh.free hd;have hbig:=hR.big;have RA:∀n o,n<=l.length->ZT Ad G (upd (Rm Ad H r dx lw (i+n)) d o) r ts (i+n) dx lw:=fun n o hn=>(hR.moved (j:=i+n) (by omega)).loose hgd hrd o;have e0:Rm Ad H r dx lw i=H:=by
   funext b;unfold Rm upd;split
   ·rename_i z;rw[z,hR.ob]
   ·rfl
  have comm:∀n o n',Rm Ad (upd (Rm Ad H r dx lw n) d o) r dx lw n'=upd (Rm Ad H r dx lw n') d o:=fun n o n'=>by
   unfold Rm;rw[ZmV (Ne.symm hrd),Z5]
  refine ZbK (fun m σ H'=>∃(n:Nat)(oc:Option V),m=l.length - n/\n<=l.length/\σ=[some (.ref r),some (.ref d),oc]/\H'=upd (Rm Ad H r dx lw (i+n)) d (.dK (kvsOf (l.take n)))/\(l.take n).Nodup)
   (fun σ H'=>∃oc,σ=[some (.ref r),some (.ref d),oc]/\H'=upd (Rm Ad H r dx lw (i+l.length)) d (.dK (kvsOf l))/\l.Nodup) ?_ ?_ ?_
  ·refine⟨_,0,none,rfl,Nat.zero_le _,rfl,?_,by simp⟩;rw[Nat.add_zero,e0];rfl
  ·rintro σ H' ⟨oc,rfl,rfl,hN⟩;refine⟨_,rfl,d,_,rfl,Zd,_,2,16,rfl,fun h1 h2=>?_,fun h1=>?_⟩
   ·rw[ZdB] at h1 h2;exact⟨_,rfl,k1 ⟨by omega,by omega,hN⟩ d hd⟩
   ·rw[ZdB] at h1;refine k2 (fun z=>h1 ⟨?_,?_⟩) _ ((RA l.length _ (Nat.le_refl _)).gh)
    ·have:=z.1;omega
    ·have:=z.2.1;omega
  ·rintro exit m σ H' ⟨n,oc,rfl,hn,rfl,rfl,hN⟩;have hRn:=RA n (.dK (kvsOf (l.take n))) hn;refine⟨_,rfl,r,dx,_,rfl,hRn.ob,Zai _ _ (by decide +kernel) (by decide +kernel),G,r,ts,i+n,dx,lw,"name",rfl,hRn,_,rfl,?_⟩;by_cases hnl:n < l.length
   ·obtain⟨b,hb⟩:∃b,l[n]?=some b:=⟨_,List.getElem?_eq_getElem hnl⟩
    have htb:ts[i+n]?=some (.name b):=by
     have:=Zm0 (ts.drop i) n b (by rw[hl];exact hb);rw[List.getElem?_drop] at this;exact this
    refine ZcY (Zgl htb) ?_;refine⟨_,rfl,r,dx,_,rfl,hRn.ob,Zai _ _ (by decide +kernel) (by decide +kernel),G,r,ts,i+n,dx,lw,"name",rfl,hRn,fun t v ht hk hv=>?_,fun z=>?_⟩
    ·rw[htb] at ht;cases ht;obtain rfl:v=.str ⟨b.toArray⟩:=hv;rw[comm];refine⟨_,rfl,_,rfl,d,_,rfl,Zas.k (k:=sK b) Zd,_,rfl,?_⟩;rw[Zen,ZmY];by_cases hm:b∈l.take n
     ·refine ifD hm (k2 (fun z=>?_) _ ((RA (n+1) _ (by omega)).gh));have hN2:=z.2.2;obtain⟨m',hm',e⟩:=List.getElem_of_mem hm;rw[List.length_take] at hm';rw[List.getElem_take] at e;have e2:=List.getElem?_eq_some_iff.mp hb;obtain⟨_,e2⟩:=e2;have:=Tl.ZcT hN2 (i:=m') (j:=n) (hi:=by omega) (hj:=hnl) (e.trans e2.symm);omega
     ·refine ifN hm ⟨_,rfl,d,_,rfl,Zd,_,rfl,_,rfl,d,_,rfl,Zca.k (k:=sK b) Zd ?_,?_⟩
      ·rw[ZdB,List.length_take];omega
      ·refine⟨_,?_,n+1,_,rfl,by omega,rfl,?_,?_⟩
       ·show l.length - (n+1) < l.length - n;omega
       ·rw[Z5];congr 2;have e1:(kvsOf (l.take n)).length=(l.take n).length:=ZdB _;show putK (kvsOf (l.take n)) (sK b) (V.int ((kvsOf (l.take n)).length:Int))=_;rw[e1];show putK (kvsOf (l.take n)) (sK b) (iV (l.take n).length)=_;rw[ZmZ hm,List.take_add_one,hb];rfl
       ·rw[List.take_add_one,hb];refine List.nodup_append.mpr ⟨hN,by simp,?_⟩;intro a ha c hc;have:c=b:=by simpa using hc
        rw[this];exact fun z=>hm (z▸ha)
    ·rw[Zgl htb] at z;cases z
   ·have hnl':n=l.length:=by omega
    subst hnl';have e1:ZaM ts (i+l.length) "name"=false:=ZtB fun b hb=>by
     refine Zm1 (ts.drop i) b ?_;rw[hl,List.getElem?_drop];exact hb
    refine ifF e1 (exit _ _ ⟨_,rfl,?_,?_⟩)
    ·rw[List.take_length]
    ·rw[List.take_length] at hN;exact hN
end
def Zeo(G:Hp)(v:V)(x:Kgf1.Var):Prop:=∃d,v=.ref d/\G d=some (.dK (kvsOf x.values))
theorem Zeo.same{F F':Hp}{v:V}{x:Kgf1.Var}(s:Zc F F')(h:Zeo F v x):Zeo F' v x:=by
 obtain⟨d,e,h1⟩:=h;exact⟨d,e,s _ _ h1⟩
structure Tl6 where
 tl:Addr
 dt:Addr
 n:Addr
 c:Addr
 w:Addr
 s:Addr
 o:Addr
 l:Addr
structure Grows{α:Type}(F:Hp->V->α->Prop)(G H:Hp)(a:Addr)(xs:List α):Prop where
 ex:∃refs,H a=some (.lst refs)/\Paired (F G) refs xs
 no:G a=none
structure Zao(Ad:Ads)(G H:Hp)(T:Tl6)(t:Kgf1.Tale):Prop where
 ob:H T.tl=some (.ins Ad.CT T.dt (ZaZ T.n T.c T.w T.s T.o T.l))
 nm:H T.n=some (.dK (kvsOf (t.vars.map Kgf1.Var.name)))
 nn:G T.n=none
 cs:Grows Zeo G H T.c t.vars
 ws:Grows (Zbf Ad.CW) G H T.w t.whens
 ss:Grows (Zc0 Ad.CS) G H T.s t.shows
 os:Grows Zaq G H T.o t.wons
 ls:Grows Zaq G H T.l t.losts
 nd:[T.c,T.w,T.s,T.o,T.l].Nodup
section
variable{Ad:Ads}{G H G' H':Hp}{T:Tl6}{t:Kgf1.Tale}{r:Addr}
theorem Grows.step{α:Type}{F:Hp->V->α->Prop}{a:Addr}{xs:List α}(hm:∀{A B:Hp}{v:V}{x:α},Zc A B->F A v x->F B v x)(h:Grows F G H a xs)(s:Step r G H G' H')(g:Zc G H)(hr:∃C dx fs,H r=some (.ins C dx fs)):Grows F G' H' a xs:=by
 obtain⟨refs,h1,h2⟩:=h.ex;obtain⟨C,dx,fs,hr⟩:=hr;have ne:a≠r:=Z6 h1 hr (by intro z;cases z);have h0:H a≠none:=by rw[h1];simp
 exact⟨⟨refs,by rw[s.hh a ne h0];exact h1,Paired.ZP h2 fun _ _ z=>hm (s.gg g) z⟩,by rw[s.gn a h0];exact h.no⟩
theorem ZtD{CR CT dx dx' n c w s o l lw:Addr}{i:Nat}:HO.ins CR dx (Zan lw i)≠HO.ins CT dx' (ZaZ n c w s o l):=by
 intro z;injection z with _ _ z3;have:=congrArg List.length z3;exact absurd this (by show¬(2:Nat)=6;decide)
theorem Zao.step{ts:List Kgf1.Tok}{i:Nat}{dx lw:Addr}(h:Zao Ad G H T t)(R:ZT Ad G H r ts i dx lw)(s:Step r G H G' H'):Zao Ad G' H' T t:=by
 have hr:∃C dx fs,H r=some (.ins C dx fs):=⟨_,_,_,R.ob⟩
 have ne1:T.tl≠r:=(Z6 R.ob h.ob ZtD).symm;have ne2:T.n≠r:=Z6 h.nm R.ob (by intro z;cases z);exact⟨by rw[s.hh _ ne1 (by rw[h.ob];simp)];exact h.ob,by rw[s.hh _ ne2 (by rw[h.nm];simp)];exact h.nm,by rw[s.gn _ (by rw[h.nm];simp)];exact h.nn,
  h.cs.step Zeo.same s R.gh hr,h.ws.step Zbf.same s R.gh hr,h.ss.step Zc0.same s R.gh hr,h.os.step Zaq.same s R.gh hr,h.ls.step Zaq.same s R.gh hr,h.nd⟩
theorem Grows.other{α:Type}{F:Hp->V->α->Prop}{a b:Addr}{xs:List α}{o:HO}(h:Grows F G H a xs)(hb:a≠b):Grows F G (upd H b o) a xs:=by
 obtain⟨refs,h1,h2⟩:=h.ex;exact⟨⟨refs,by rw[Zf hb];exact h1,h2⟩,h.no⟩
theorem Grows.push{α:Type}{F:Hp->V->α->Prop}{a:Addr}{xs:List α}{refs:List V}{v:V}{x:α}(h:Paired (F G) refs xs)(g:G a=none)(hv:F G v x):Grows F G (upd H a (.lst (refs++[v]))) a (xs++[x]) :=
 ⟨⟨_,Zd,Paired.snoc h hv⟩,g⟩
end
def kwL:List String:=["var","when","show","won","lost","if","do","say","is","not","and"]
theorem ZtE(b:List Nat):inV (.str ⟨b.toArray⟩) (kwL.map fun s=>V.str (Str.ofString s))=Kgf1.reserved.contains b:=by
 have e:∀l:List String,inV (.str ⟨b.toArray⟩) (l.map fun s=>V.str (Str.ofString s))=(l.map Kgf1.ascii).contains b:=by
  intro l;induction l with
  |nil=>rfl
  |cons s l ih =>
   unfold inV at ih ⊢;rw[List.map_cons,List.any_cons,ih,List.map_cons,List.contains_cons];congr 1;show(Str.ofString s==(⟨b.toArray⟩:Str))=(b==Kgf1.ascii s)
   rw[Bool.eq_iff_iff,beq_iff_eq,beq_iff_eq];exact⟨fun z=>Zgi.mp z.symm,fun z=>(Zgi.mpr z).symm⟩
 exact e kwL
theorem ZtF:(kwL.map fun s=>V.str (Str.ofString s)).all Zbq=true:=by
 rw[List.all_map,List.all_eq_true];intro s _;rfl
structure Ze5(K:PySem.W.Frag)(a:Addr)(xs:List V):Prop where
 at_:∀H,SqT K H a xs
theorem ZtG{X:Cx}{x:Str}{a:Addr}{pos:Pos}(hm:X.mg x=some (.ref a))(hg:Gl X x:=by rfl)(hd:(x==("__debug__":Str))=false:=by decide):PE X (.Name x pos) (tC (.ref a)):=ZdP hg hm rfl hd
section
def ZiS(Ad:Ads)(C:Addr):Sp:=fun vs H Q E=>∃G r ts i dx lw T t,vs=[.ref r,.ref T.tl]/\ZT Ad G H r ts i dx lw/\Zao Ad G H T t /\
 (∀b k,ts[i]?=some (.name b)->(t.vars.findIdx? fun x=>x.name==b)=some k->Q (iV k) (Rm Ad H r dx lw (i+1))) /\
 ((∀b,ts[i]?=some (.name b)->(t.vars.findIdx? fun x=>x.name==b)=none)->∀H',Zc G H'->E (.ref C) none H')
theorem Zm3:Zo ["reader","tale","name"] ["reader","tale"] (Zi ZiP):=⟨rfl,rfl,rfl,by decide +kernel,rfl,by decide +kernel,by decide +kernel⟩
theorem findIdx_map{α β:Type}(f:α->β)(p:β->Bool):∀l:List α,(l.map f).findIdx? p=l.findIdx? fun x=>p (f x)
 |[]=>rfl
 |a::l=>by rw[List.map_cons,List.findIdx?_cons,List.findIdx?_cons,findIdx_map f p l]
theorem ZtH(D:Zj K mg "read_var_number" ZiP f)(R:Rdr P w K mg base Ad C)(CT:Zv K Ad.CT Za8) :
  Can P w K mg base (CX1 P w) 4 "read_var_number" ["reader","tale"] (ZiS Ad C):=by
 refine D.Zap Zm3 (fun _ _ _ _ _ _ us hl=>match us,hl with|[_,_],_=>rfl) (fun vs H Q E h=>?_) (fun cdv A outer s H vs Q E hr h=>?_)
 ·obtain⟨G,r,ts,i,dx,lw,T,t,rfl,_⟩:=h;rfl
 ·obtain⟨G,r,ts,i,dx,lw,T,t,rfl,hR,hT,k1,k2⟩:=h;have hu:=hu1 hr;refine⟨_,Ze (Zx (i:=2) Zm3.nd rfl (Or.inl rfl) (Z8 (pv 0) R.cl.cl R.take hr (ZJ Zt) (Za Zad Zb)))
   (Ze (Zy (Zdd (ZfE hu (pv 2) (Zl (pv 1) rfl))) (Zh (Zbd Zt R.NE)) ZD)
   (Zh (Zm (ZeL hu (Zl (pv 1) rfl) (pv 2) (fun _ _=>rfl))))),?_⟩
  refine⟨_,rfl,r,dx,_,rfl,hR.ob,Zai _ _ (by decide +kernel) (by decide +kernel),G,r,ts,i,dx,lw,"name",rfl,hR,fun tk v ht hk hv=>?_,fun z=>k2 (fun b hb=>?_) H hR.gh⟩
  ·obtain⟨b,rfl⟩:=Ze4 hk;obtain rfl:v=.str ⟨b.toArray⟩:=hv;have st:Step r G H G (Rm Ad H r dx lw (i+1)):=Step.move hR;have hT':=hT.step hR st;have key:Zab (kvsOf (t.vars.map Kgf1.Var.name)) (sK b)=(t.vars.findIdx? fun x=>x.name==b).map iV:=by rw[Zen,findIdx_map]
   refine⟨_,rfl,_,rfl,T.tl,Ad.CT,T.dt,_,_,rfl,hT'.ob,CT.cl,CT.no _ (by decide +kernel),Zf6 ..,T.n,_,rfl,Zas.k (k:=sK b) hT'.nm,_,rfl,?_⟩;rw[key];cases e:t.vars.findIdx? (fun x=>x.name==b) with
   |none =>
    exact Zar (k2 (fun b' hb'=>by rw[ht] at hb';cases hb';exact e) _ st.gh)
   |some k =>
    refine ZW ⟨_,rfl,T.tl,Ad.CT,T.dt,_,_,rfl,hT'.ob,CT.cl,CT.no _ (by decide +kernel),Zf6 ..,_,rfl,T.n,_,rfl,?_,k1 b k ht e⟩;have:=Zas.k (k:=sK b) hT'.nm;rw[key,e] at this;exact this
  ·rw[Zgl hb] at z;cases z
def Zgn(Ad:Ads)(C:Addr):Sp:=fun vs H Q E=>∃G r ts i dx lw d l,vs=[.ref r,.ref d]/\ZT Ad G H r ts i dx lw/\G d=some (.dK (kvsOf l)) /\
 (∀b k,ts[i]?=some (.name b)->(l.findIdx? fun y=>y==b)=some k->Q (iV k) (Rm Ad H r dx lw (i+1))) /\
 ((∀b,ts[i]?=some (.name b)->(l.findIdx? fun y=>y==b)=none)->∀H',Zc G H'->E (.ref C) none H')
theorem Zm4:Zo ["reader","choices","choice"] ["reader","choices"] (Zi ZiQ):=⟨rfl,rfl,rfl,by decide +kernel,rfl,by decide +kernel,by decide +kernel⟩
theorem ZtI(D:Zj K mg "read_choice_number" ZiQ f)(R:Rdr P w K mg base Ad C) :
  Can P w K mg base (CX1 P w) 4 "read_choice_number" ["reader","choices"] (Zgn Ad C):=by
 refine D.Zap Zm4 (fun _ _ _ _ _ _ us hl=>match us,hl with|[_,_],_=>rfl) (fun vs H Q E h=>?_) (fun cdv A outer s H vs Q E hr h=>?_)
 ·obtain⟨G,r,ts,i,dx,lw,d,l,rfl,_⟩:=h;rfl
 ·obtain⟨G,r,ts,i,dx,lw,d,l,rfl,hR,hd,k1,k2⟩:=h;have hu:=hu1 hr;refine⟨_,Ze (Zx (i:=2) Zm4.nd rfl (Or.inl rfl) (Z8 (pv 0) R.cl.cl R.take hr (ZJ Zt) (Za Zad Zb)))
   (Ze (Zy (Zdd (ZfE hu (pv 2) (pv 1))) (Zh (Zbd Zt R.NE)) ZD)
   (Zh (Zm (ZeL hu (pv 1) (pv 2) (fun _ _=>rfl))))),?_⟩
  refine⟨_,rfl,r,dx,_,rfl,hR.ob,Zai _ _ (by decide +kernel) (by decide +kernel),G,r,ts,i,dx,lw,"name",rfl,hR,fun tk v ht hk hv=>?_,fun z=>k2 (fun b hb=>?_) H hR.gh⟩
  ·obtain⟨b,rfl⟩:=Ze4 hk;obtain rfl:v=.str ⟨b.toArray⟩:=hv;have st:Step r G H G (Rm Ad H r dx lw (i+1)):=Step.move hR;have hd':=st.gh _ _ hd;refine⟨_,rfl,_,rfl,d,_,rfl,Zas.k (k:=sK b) hd',_,rfl,?_⟩;rw[Zen];cases e:l.findIdx? (fun y=>y==b) with
   |none =>
    exact Zar (k2 (fun b' hb'=>by rw[ht] at hb';cases hb';exact e) _ st.gh)
   |some k =>
    refine ZW ⟨_,rfl,_,rfl,d,_,rfl,?_,k1 b k ht e⟩;have:=Zas.k (k:=sK b) hd';rw[Zen,e] at this;exact this
  ·rw[Zgl hb] at z;cases z
end
theorem ZiT{t:Kgf1.Tok}(h:kindOf t=("string":Str)):∃b,t=.str b:=by
 cases t with
 |str b=>exact⟨b,rfl⟩
 |name b=>exact absurd h (by show¬(("name":Str)="string");decide +kernel)
 |eq=>exact absurd h (by show¬(("=":Str)="string");decide +kernel)
 |semi=>exact absurd h (by show¬((";":Str)="string");decide +kernel)
theorem ZtJ{t:Kgf1.Tok}(h:kindOf t=("=":Str)):t=.eq:=by
 cases t with
 |eq=>rfl
 |name b=>exact absurd h (by show¬(("name":Str)="=");decide +kernel)
 |str b=>exact absurd h (by show¬(("string":Str)="=");decide +kernel)
 |semi=>exact absurd h (by show¬((";":Str)="=");decide +kernel)
theorem Zm5{t:Kgf1.Tok}(h:kindOf t=(";":Str)):t=.semi:=by
 cases t with
 |semi=>rfl
 |name b=>exact absurd h (by show¬(("name":Str)=";");decide +kernel)
 |str b=>exact absurd h (by show¬(("string":Str)=";");decide +kernel)
 |eq=>exact absurd h (by show¬(("=":Str)=";");decide +kernel)
theorem Zgo{ts:List Kgf1.Tok}{i:Nat}{k:Str}(h:ZaM ts i k=false){t:Kgf1.Tok}(ht:ts[i]?=some t):kindOf t≠k:=by
 unfold ZaM at h;rw[ht] at h;exact of_decide_eq_false h
theorem Zay{ts:List Kgf1.Tok}{i:Nat}{t:Kgf1.Tok}(h:ts[i]?=some t):ts.drop i=t::ts.drop (i+1):=by
 obtain⟨hi,e⟩:=List.getElem?_eq_some_iff.mp h;rw[List.drop_eq_getElem_cons hi,e]
theorem ZbM{ts:List Kgf1.Tok}{i:Nat}(h:ts[i]?=none):ts.drop i=[]:=List.drop_eq_nil_of_le (List.getElem?_eq_none_iff.mp h)
theorem Zaz{ts:List Kgf1.Tok}{i:Nat}{t:Kgf1.Tok}(h:ts[i]?=some t):i < ts.length:=(List.getElem?_eq_some_iff.mp h).1
def cnt(t:Kgf1.Tale):Nat:=t.vars.length+t.whens.length+t.shows.length+t.wons.length+t.losts.length
structure Rg(Ad:Ads)(G H:Hp)(r:Addr)(ts:List Kgf1.Tok)(i:Nat)(dx lw:Addr)(T:Tl6)(t:Kgf1.Tale):Prop where
 R:ZT Ad G H r ts i dx lw
 T:Zao Ad G H T t
 bd:cnt t<=i
theorem Zm6{α:Type}{a:α}{ts:List Kgf1.Tok}{i:Nat}(h:ZaM ts i ";"=false):Tl.Zat a (ts.drop i)=none:=by
 cases e:ts[i]? with
 |none=>rw[ZbM e];rfl
 |some t =>
  rw[Zay e];cases t with
  |semi=>exact absurd rfl (Zgo h e)
  |_=>rfl
theorem nd5{c w s o l:Addr}(h:[c,w,s,o,l].Nodup):(c≠w/\c≠s/\c≠o/\c≠l)/\(w≠s/\w≠o/\w≠l)/\(s≠o/\s≠l)/\o≠l:=by
 simp only[List.nodup_cons,List.mem_cons,List.not_mem_nil,or_false,not_or,List.nodup_nil,and_true,not_false_eq_true] at h;exact h
section
def Zc2(Ad:Ads)(C:Addr)(S:Kgf1.Tale->List Kgf1.Tok->Option (Kgf1.Tale×List Kgf1.Tok)):Sp:=fun vs H Q E=>∃G r ts i dx lw T t,vs=[.ref r,.ref T.tl]/\Rg Ad G H r ts i dx lw T t /\
 (∀t' j G' H',S t (ts.drop i)=some (t',ts.drop j)->i < j->Zc G G'->Rg Ad G' H' r ts j dx lw T t'->Q .non H') /\
 (S t (ts.drop i)=none->∀H',Zc G H'->E (.ref C) none H')
theorem ZiU:Zo ["reader","tale","name","choices"] ["reader","tale"] (Zi ZiO):=⟨rfl,rfl,rfl,by decide +kernel,rfl,by decide +kernel,by decide +kernel⟩
theorem ZiV{t:Kgf1.Tale}{n:List Nat}{l:List Kgf1.Bytes}:Tl.ZbF t n l=true↔(Kgf1.reserved.contains n=false/\(t.vars.any fun x=>x.name==n)=false)/\Zgm l:=by
 unfold Tl.ZbF Zgm;simp only[Bool.and_eq_true,Bool.not_eq_true',decide_eq_true_eq];exact⟨fun⟨⟨⟨⟨a,b⟩,c⟩,d⟩,e⟩=>⟨⟨a,b⟩,c,d,e⟩,fun⟨⟨a,b⟩,c,d,e⟩=>⟨⟨⟨⟨a,b⟩,c⟩,d⟩,e⟩⟩
theorem Zm7{t:Kgf1.Tale}{n:List Nat}{r:List Kgf1.Tok}(h:¬(Kgf1.reserved.contains n=false/\(t.vars.any fun x=>x.name==n)=false)):Tl.ZbG t (.name n::r)=none:=by
 unfold Tl.ZbG;split
 ·rename_i e;cases e;rw[if_neg fun z=>h (ZiV.mp z).1]
 ·rfl
theorem ZtK(b:List Nat)(vs:List Kgf1.Var):(vs.any fun x=>x.name==b)=(Zab (kvsOf (vs.map Kgf1.Var.name)) (sK b)).isSome:=by
 rw[Zen,findIdx_map,Option.isSome_map,ZiM]
theorem ZtL(D:Zj K mg "read_var" ZiO f)(R:Rdr P w K mg base Ad C)(CT:Zv K Ad.CT Za8)(hlen:mg "len"=none){kw:Addr}(hKW:mg "KEPT_WORDS"=some (.ref kw))(kT:Ze5 K kw (kwL.map fun s=>V.str (Str.ofString s)))
  (F1:Can P w K mg base (CX1 P w) 4 "read_choices" ["reader"] (Zm2 Ad C)) :
  Can P w K mg base (CX1 P w) 5 "read_var" ["reader","tale"] (Zc2 Ad C Tl.ZbG):=by
 refine D.Zap ZiU (fun _ _ _ _ _ _ us hl=>match us,hl with|[_,_],_=>rfl) (fun vs H Q E h=>?_) (fun cdv A outer s H vs Q E hr h=>?_)
 ·obtain⟨G,r,ts,i,dx,lw,T,t,rfl,_⟩:=h;rfl
 ·obtain⟨G,r,ts,i,dx,lw,T,t,rfl,hG,k1,k2⟩:=h;have hu:=hu1 hr;have hR:=hG.R;have hT:=hG.T;have big:sizeLine=16777216:=by decide
  refine⟨_,Ze (Zx (i:=2) ZiU.nd rfl (Or.inl rfl) (Z8 (pv 0) R.cl.cl R.take hr (ZJ Zt) (Za Zad Zb)))
   (Ze (Zy (ZeA (ZC ZkC (pv 2) (ZtG hKW) rfl) (Zfq (Zdd (ZkT hu (pv 2) (Zl (pv 1) rfl))))).pt (Zh (Zbd Zt R.NE)) ZD)
   (Ze (ZK (Z8 (pv 0) R.cl.cl R.take hr (ZJ Zt) (Za Zad Zb)))
   (Ze (Zx (i:=3) ZiU.nd rfl (Or.inl rfl) (Zp F1 hr (ZJ Zt) (Za (pv 0) Zb)))
   (Ze (ZK (Z8 (pv 0) R.cl.cl R.take hr (ZJ Zt) (Za Zad Zb)))
   (Ze (ZfF hu (Zl (pv 1) rfl) (pv 2) (ZN Z0 (by rfl) hlen PySem.boot_len (Za (Zl (pv 1) rfl) Zb)) rfl)
   (Zh (ZK (Zax PySem.F.plainAttrs_list PySem.F.slot_list_append PySem.F.type_list_append ZaQ (Zl (pv 1) rfl) (Za (pv 3) Zb))))))))),?_⟩
  refine⟨_,rfl,r,dx,_,rfl,hR.ob,Zai _ _ (by decide +kernel) (by decide +kernel),G,r,ts,i,dx,lw,"name",rfl,hR,fun tk v ht hk hv=>?_,fun z=>k2 ?_ H hR.gh⟩;rotate_left
  ·cases e:ts[i]? with
   |none=>rw[ZbM e];rfl
   |some t' =>
    rw[Zay e];cases t' with
    |name b=>exact absurd rfl (Zgo z e)
    |_=>rfl
  obtain⟨b,rfl⟩:=Ze4 hk;obtain rfl:v=.str ⟨b.toArray⟩:=hv;rw[Zay ht] at k1 k2;have st1:Step r G H G (Rm Ad H r dx lw (i+1)):=Step.move hR;have hR1:=hR.mv (j:=i+1) (Zaz ht);have hT1:=hT.step hR st1;generalize Rm Ad H r dx lw (i+1)=H1 at st1 hR1 hT1;refine⟨_,rfl,kw,_,rfl,.inr (kT.at_ _),rfl,ZtF,_,rfl,?_⟩;simp only[Bool.false_eq_true,if_false];rw[ZtE];cases hk1:Kgf1.reserved.contains b with
  |true =>
   refine Zar ?_;exact k2 (Zm7 fun z=>by rw[hk1] at z;exact absurd z.1 (by decide)) _ hR1.gh
  |false =>
  refine ZW ⟨_,rfl,_,rfl,T.tl,Ad.CT,T.dt,_,_,rfl,hT1.ob,CT.cl,CT.no _ (by decide +kernel),Zf6 ..,T.n,_,rfl,Zas.k (k:=sK b) hT1.nm,_,rfl,?_⟩;rw[←ZtK];cases hk2:t.vars.any (fun x=>x.name==b) with
  |true=>exact Zar (k2 (Zm7 fun z=>by rw[hk2] at z;exact absurd z.2 (by decide)) _ hR1.gh)
  |false =>
  refine ZW ?_;refine⟨_,rfl,r,dx,_,rfl,hR1.ob,Zai _ _ (by decide +kernel) (by decide +kernel),G,r,ts,i+1,dx,lw,"=",rfl,hR1,fun tk2 v2 ht2 hk2' hv2=>?_,fun z=>k2 ?_ _ hR1.gh⟩;rotate_left
  ·cases e:ts[i+1]? with
   |none=>rw[ZbM e];rfl
   |some t' =>
    rw[Zay e];cases t' with
    |eq=>exact absurd rfl (Zgo z e)
    |_=>rfl
  cases ZtJ hk2';rw[Zay ht2] at k1 k2;have st2:Step r G H1 G (Rm Ad H1 r dx lw (i+2)):=Step.move hR1;have hR2:=hR1.mv (j:=i+2) (Zaz ht2);have hT2:=hT1.step hR1 st2;show ZgW _ _ _ _ (Rm Ad H1 r dx lw (i+2));generalize Rm Ad H1 r dx lw (i+2)=H2 at st2 hR2 hT2;have hvs:Tl.ZbG t (.name b::.eq::ts.drop (i+2))=if Tl.ZbF t b (Tl.namesIn (ts.drop (i+2)))=true then Tl.Zat ({ t with vars:=t.vars++[⟨b,Tl.namesIn (ts.drop (i+2))⟩] }:Kgf1.Tale) ((ts.drop (i+2)).drop (Tl.namesIn (ts.drop (i+2))).length) else none:=rfl;have k2':(if Tl.ZbF t b (Tl.namesIn (ts.drop (i+2)))=true then Tl.Zat ({ t with vars:=t.vars++[⟨b,Tl.namesIn (ts.drop (i+2))⟩] }:Kgf1.Tale) ((ts.drop (i+2)).drop (Tl.namesIn (ts.drop (i+2))).length) else none)=none->∀H',Zc G H'->E (.ref C) none H':=k2;have k1':∀(t':Kgf1.Tale)(j:Nat)(G' H':Hp),(if Tl.ZbF t b (Tl.namesIn (ts.drop (i+2)))=true then Tl.Zat ({ t with vars:=t.vars++[⟨b,Tl.namesIn (ts.drop (i+2))⟩] }:Kgf1.Tale) ((ts.drop (i+2)).drop (Tl.namesIn (ts.drop (i+2))).length) else none)=some (t',ts.drop j)->i < j->Zc G G'->Rg Ad G' H' r ts j dx lw T t'->Q .non H':=k1;refine⟨_,rfl,G,r,ts,i+2,dx,lw,rfl,hR2,?_⟩;have hnle:i+2+(Tl.namesIn (ts.drop (i+2))).length<=ts.length:=by
   have:=Tl.Zll (ts.drop (i+2));rw[List.length_drop] at this;have:=hR2.le;omega
  generalize hl:Tl.namesIn (ts.drop (i+2))=l at k1' k2' hnle;refine⟨fun hch d hd=>?_,fun hch=>k2' (if_neg fun z=>hch (ZiV.mp z).2)⟩;rw[if_pos (ZiV.mpr ⟨⟨hk1,hk2⟩,hch⟩),List.drop_drop] at k1' k2';have hrd:r≠d:=Zk hR2.ob hd;have st3a:Step r G H2 G (Rm Ad H2 r dx lw (i+2+l.length)):=Step.move hR2;have hR3a:=hR2.mv (j:=i+2+l.length) hnle;have hT3a:=hT2.step hR2 st3a;have hd3:Rm Ad H2 r dx lw (i+2+l.length) d=none:=by rw[Zcy hrd.symm];exact hd
  have st3b:Step r G _ (upd G d (.dK (kvsOf l))) (upd (Rm Ad H2 r dx lw (i+2+l.length)) d (.dK (kvsOf l))):=Step.new hR3a.gh hd3 _;have hR3:=hR3a.new hd3 (.dK (kvsOf l));have hT3:=hT3a.step hR3a st3b;have gg:Zc G (upd G d (.dK (kvsOf l))):=st3b.gg hR3a.gh;have hGd:upd G d (.dK (kvsOf l)) d=some (.dK (kvsOf l)):=Zd;generalize upd (Rm Ad H2 r dx lw (i+2+l.length)) d (.dK (kvsOf l))=H3 at hR3 hT3;generalize upd G d (.dK (kvsOf l))=G3 at hR3 hT3 gg hGd;refine⟨_,rfl,r,dx,_,rfl,hR3.ob,Zai _ _ (by decide +kernel) (by decide +kernel),G3,r,ts,i+2+l.length,dx,lw,";",rfl,hR3,fun tk3 v3 ht3 hk3 hv3=>?_,fun z=>k2' (Zm6 z) _ (gg.trans hR3.gh)⟩;cases Zm5 hk3;have st4:Step r G3 H3 G3 (Rm Ad H3 r dx lw (i+2+l.length+1)):=Step.move hR3;have hR4:=hR3.mv (j:=i+2+l.length+1) (Zaz ht3);have hT4:=hT3.step hR3 st4;show ZgW _ _ _ _ (Rm Ad H3 r dx lw (i+2+l.length+1));generalize Rm Ad H3 r dx lw (i+2+l.length+1)=H4 at st4 hR4 hT4;obtain⟨crefs,hc1,hc2⟩:=hT4.cs.ex;have hcl:crefs.length=t.vars.length:=Z2 hc2;have hbd:t.vars.length<=30000:=by
   have h1:=hG.bd;have h2:=hR.le;have h3:=hR.big;unfold cnt at h1;omega
  have hcn:T.c≠T.n:=Z6 hc1 hT4.nm (by intro z;cases z);refine⟨_,rfl,T.tl,Ad.CT,T.dt,_,_,rfl,hT4.ob,CT.cl,CT.no _ (by decide +kernel),ZcZ ..,T.c,_,rfl,.inl (SqL.of hc1),_,rfl,T.tl,Ad.CT,T.dt,_,_,rfl,hT4.ob,CT.cl,CT.no _ (by decide +kernel),Zf6 ..,_,rfl,T.n,_,rfl,Zca.k (k:=sK b) hT4.nm (by rw[ZdB,List.length_map];omega),?_⟩;have hnb:b∉t.vars.map Kgf1.Var.name:=fun z=>by
   obtain⟨x,hx,e⟩:=List.mem_map.mp z;rw[List.any_eq_false] at hk2;exact hk2 x hx (by rw[e];exact beq_self_eq_true b)
  have ep:putK (kvsOf (t.vars.map Kgf1.Var.name)) (sK b) (V.int (crefs.length:Int))=kvsOf ((t.vars.map Kgf1.Var.name)++[b]):=by
   rw[hcl,←ZmZ hnb,List.length_map]
  rw[ep];have hob5:upd H4 T.n (.dK (kvsOf (t.vars.map Kgf1.Var.name++[b]))) T.tl=some (.ins Ad.CT T.dt (ZaZ T.n T.c T.w T.s T.o T.l)):=by
   rw[Zf (Z6 hT4.ob hT4.nm (by intro z;cases z))];exact hT4.ob
  have hc5:upd H4 T.n (.dK (kvsOf (t.vars.map Kgf1.Var.name++[b]))) T.c=some (.lst crefs):=by
   rw[Zf hcn];exact hc1
  refine⟨_,rfl,T.tl,Ad.CT,T.dt,_,_,rfl,hob5,CT.cl,CT.no _ (by decide +kernel),ZcZ ..,.inl ⟨rfl,_,SqL.of hc5⟩,_,rfl,T.c,_,_,rfl,rfl,hc5,by omega,?_⟩;refine k1' { t with vars:=t.vars++[⟨b,l⟩] } (i+2+l.length+1) G3 _ ?_ (by omega) gg ⟨?_,?_,?_⟩
  ·rw[Zay ht3];rfl
  ·exact(hR4.loose hT4.nn (Z6 hR4.ob hT4.nm (by intro z;cases z)) _).loose hT4.cs.no (Z6 hR4.ob hc1 (by intro z;cases z)) _
  ·obtain⟨⟨n1,n2,n3,n4⟩,_,_,_⟩:=nd5 hT4.nd;have dict:∀{a:Addr}{refs:List V},H4 a=some (.lst refs)->a≠T.n:=fun h=>Z6 h hT4.nm (by intro z;cases z);obtain⟨_,w1,_⟩:=hT4.ws.ex;obtain⟨_,s1,_⟩:=hT4.ss.ex;obtain⟨_,o1,_⟩:=hT4.os.ex;obtain⟨_,l1,_⟩:=hT4.ls.ex;refine⟨?_,?_,hT4.nn,?_,(hT4.ws.other (dict w1)).other n1.symm,(hT4.ss.other (dict s1)).other n2.symm,(hT4.os.other (dict o1)).other n3.symm,(hT4.ls.other (dict l1)).other n4.symm,hT4.nd⟩
   ·rw[Zf (Z6 hT4.ob hc1 (by intro z;cases z))];exact hob5
   ·rw[Zf hcn.symm,Zd];show _=some (HO.dK (kvsOf ((t.vars++[(⟨b,l⟩:Kgf1.Var)]).map Kgf1.Var.name)));rw[List.map_append];rfl
   ·exact Grows.push hc2 hT4.cs.no ⟨d,rfl,hGd⟩
  ·have h1:=hG.bd;unfold cnt at h1 ⊢;show(t.vars++[(⟨b,l⟩:Kgf1.Var)]).length+t.whens.length+t.shows.length+t.wons.length+t.losts.length<=_;rw[List.length_append];show t.vars.length+1+_+_+_+_<=_;omega
end
def ZaF(vs:List Kgf1.Var)(ts:List Kgf1.Tok)(i:Nat):Option (Kgf1.Part×List Kgf1.Tok):=match ts[i]?,ts[i+1]?,ts[i+2]? with
 |some (.name n),some (.name h),some (.name v)=>(Kgf1.part vs n h v).map fun p=>(p,ts.drop (i+3))
 |_,_,_=>none
theorem ZiW(vs:List Kgf1.Var)(ts:List Kgf1.Tok)(i:Nat):Tl.Zbb vs (ts.drop i)=ZaF vs ts i:=by
 unfold ZaF;cases e1:ts[i]? with
 |none=>rw[ZbM e1];rfl
 |some t1 =>
  rw[Zay e1];cases t1 with
  |name n =>
   cases e2:ts[i+1]? with
   |none=>rw[ZbM e2];rfl
   |some t2 =>
    rw[Zay e2];cases t2 with
    |name h =>
     cases e3:ts[i+2]? with
     |none=>rw[ZbM e3];rfl
     |some t3 =>
      rw[Zay e3];cases t3<;>rfl
    |_=>rfl
  |_=>rfl
def ZbZ(k j:Nat)(h:List Nat):Option Kgf1.Part:=if h=Kgf1.ascii "is" then some ⟨k,j,true⟩ else if h=Kgf1.ascii "not" then some ⟨k,j,false⟩ else none
theorem Ze6(vs:List Kgf1.Var)(n h v:List Nat):Kgf1.part vs n h v=(vs.findIdx? fun x=>x.name==n).bind fun k=>(vs[k]?).bind fun x=>(x.values.findIdx? fun y=>y==v).bind fun j=>ZbZ k j h:=rfl
theorem Zm8{vs:List Kgf1.Var}{ts:List Kgf1.Tok}{i:Nat}(h:∀b,ts[i]?=some (.name b)->(vs.findIdx? fun x=>x.name==b)=none):ZaF vs ts i=none:=by
 unfold ZaF;split
 ·rename_i n h' v e1 e2 e3;rw[Ze6,h n e1];rfl
 ·rfl
theorem ZtM{vs:List Kgf1.Var}{ts:List Kgf1.Tok}{i:Nat}(h1:ts[i+1]?≠some (Kgf1.kw "is"))(h2:ts[i+1]?≠some (Kgf1.kw "not")):ZaF vs ts i=none:=by
 unfold ZaF;split
 ·rename_i n h v e1 e2 e3;have a1:h≠Kgf1.ascii "is":=fun z=>h1 (by rw[e2,z];rfl);have a2:h≠Kgf1.ascii "not":=fun z=>h2 (by rw[e2,z];rfl);have:∀k j,ZbZ k j h=none:=fun k j=>by unfold ZbZ;rw[if_neg a1,if_neg a2]
  rw[Ze6];cases vs.findIdx? (fun x=>x.name==n) with
  |none=>rfl
  |some k =>
   show((vs[k]?).bind _).map _=none;cases vs[k]? with
   |none=>rfl
   |some x =>
    show((x.values.findIdx? _).bind _).map _=none;cases x.values.findIdx? (fun y=>y==v) with
    |none=>rfl
    |some j =>
     show(ZbZ k j h).map _=none;rw[this];rfl
 ·rfl
theorem Zm9{vs:List Kgf1.Var}{ts:List Kgf1.Tok}{i k:Nat}{b:List Nat}{x:Kgf1.Var}(hb:ts[i]?=some (.name b))(hk:(vs.findIdx? fun x=>x.name==b)=some k)(hx:vs[k]?=some x)(h:∀c,ts[i+2]?=some (.name c)->(x.values.findIdx? fun y=>y==c)=none):ZaF vs ts i=none:=by
 unfold ZaF;split
 ·rename_i n h' v e1 e2 e3;rw[hb] at e1;cases e1;rw[Ze6,hk];show((vs[k]?).bind _).map _=none;rw[hx];show((x.values.findIdx? _).bind _).map _=none;rw[h v e3];rfl
 ·rfl
theorem Zna{vs:List Kgf1.Var}{ts:List Kgf1.Tok}{i k j:Nat}{b c h:List Nat}{x:Kgf1.Var}(hb:ts[i]?=some (.name b))(hk:(vs.findIdx? fun x=>x.name==b)=some k)(hx:vs[k]?=some x)(hh:ts[i+1]?=some (.name h))(hc:ts[i+2]?=some (.name c))(hj:(x.values.findIdx? fun y=>y==c)=some j) :
  ZaF vs ts i=(ZbZ k j h).map fun p=>(p,ts.drop (i+3)):=by
 unfold ZaF;rw[hb,hh,hc];show(Kgf1.part vs b h c).map _=_;rw[Ze6,hk];show((vs[k]?).bind _).map _=_;rw[hx];show((x.values.findIdx? _).bind _).map _=_;rw[hj];rfl
theorem Znb{α:Type}{p:α->Bool}{l:List α}{k:Nat}(h:l.findIdx? p=some k):k < l.length:=(List.findIdx?_eq_some_iff_getElem.mp h).1
theorem ZdC{Ad:Ads}{H:Hp}{r dx lw:Addr}{i j:Nat}:Rm Ad (Rm Ad H r dx lw i) r dx lw j=Rm Ad H r dx lw j:=Z5
abbrev ZiX:Stmt:=top 55
abbrev ZiY:Stmt:=top 56
section
def Znc(Ad:Ads)(C:Addr):Sp:=fun vs H Q E=>∃G r ts i dx lw T t,vs=[.ref r,.ref T.tl]/\ZT Ad G H r ts i dx lw/\Zao Ad G H T t /\
 (∀p,ZaF t.vars ts i=some (p,ts.drop (i+3))->i+3<=ts.length->∀q,H q=none->Q (.ref q) (upd (Rm Ad H r dx lw (i+3)) q (.tup [iV p.var,iV p.value,.bl p.is]))) /\
 (ZaF t.vars ts i=none->∀H',Zc G H'->E (.ref C) none H')
theorem ZiZ:Zo ["reader","tale","var","asked"] ["reader","tale"] (Zi ZiX):=⟨rfl,rfl,rfl,by decide +kernel,rfl,by decide +kernel,by decide +kernel⟩
theorem ZtN(D:Zj K mg "read_condition_part" ZiX f)(R:Rdr P w K mg base Ad C)(CT:Zv K Ad.CT Za8)
  (F1:Can P w K mg base (CX1 P w) 4 "read_var_number" ["reader","tale"] (ZiS Ad C)) (F2:Can P w K mg base (CX1 P w) 4 "read_choice_number" ["reader","choices"] (Zgn Ad C)) :
  Can P w K mg base (CX1 P w) 5 "read_condition_part" ["reader","tale"] (Znc Ad C):=by
 refine D.Zap ZiZ (fun _ _ _ _ _ _ us hl=>match us,hl with|[_,_],_=>rfl) (fun vs H Q E h=>?_) (fun cdv A outer s H vs Q E hr h=>?_)
 ·obtain⟨G,r,ts,i,dx,lw,T,t,rfl,_⟩:=h;rfl
 ·obtain⟨G,r,ts,i,dx,lw,T,t,rfl,hR,hT,k1,k2⟩:=h;refine⟨_,Ze (Zx (i:=2) ZiZ.nd rfl (Or.inl rfl) (Zp F1 hr (ZJ Zt) (Za (pv 0) (Za (pv 1) Zb))))
   (Ze (Zx (i:=3) ZiZ.nd rfl (Or.inl rfl) (Z8 (pv 0) R.cl.cl R.passes hr Zs (Za Zad Zb)))
   (Ze (Zy (ZcI (Zam (pv 3))) (Zh (ZK (Z8 (pv 0) R.cl.cl R.need hr (ZJ Zt) (Za Zad Zb)))) ZD)
   (Zh (Zm (Zdi (Za (pv 2) (Za (Zp F2 hr (ZJ Zt) (Za (pv 0) (Za (ZG ZO (Zl (pv 1) rfl) (pv 2) (fun _ _=>rfl)) Zb))) (Za (pv 3) Zb)))))))),?_⟩
  refine⟨_,rfl,_,rfl,G,r,ts,i,dx,lw,T,t,rfl,hR,hT,fun b k hb hk=>?_,fun z=>k2 (Zm8 z)⟩;have hkl:=Znb hk;obtain⟨x,hx⟩:∃x,t.vars[k]?=some x:=⟨_,List.getElem?_eq_getElem hkl⟩
  have st1:Step r G H G (Rm Ad H r dx lw (i+1)):=Step.move hR;have hR1:=hR.mv (j:=i+1) (Zaz hb);have hT1:=hT.step hR st1;have fin:∀(a:Bool)(h:List Nat),ts[i+1]?=some (.name h)->(∀j,ZbZ k j h=some ⟨k,j,a⟩)->∀σ,σ=[some (.ref r),some (.ref T.tl),some (iV k),some (.bl a)] ->
    ZbO (Zkq (ZU (ZH 2) (ZU (Zb7 (Zgn Ad C) [] E (ZU (ZH 0) (ZU (tOp (Zdl K) (Zbo K (ZH 1) "choices") (ZH 2)) Zaf))) (ZU (ZH 3) Zaf)))) { nx:=fun _ H'=>Q .non H',rt:=Q } σ (Rm Ad H r dx lw (i+2)):=by
   rintro a h hh hp σ rfl;have st2:Step r G H G (Rm Ad H r dx lw (i+2)):=Step.move hR;have hR2:=hR.mv (j:=i+2) (Zaz hh);have hT2:=hT.step hR st2;obtain⟨crefs,hc1,hc2⟩:=hT2.cs.ex;obtain⟨v,hv⟩:∃v,crefs[k]?=some v:=⟨_,List.getElem?_eq_getElem (by rw[Z2 hc2];exact hkl)⟩
   obtain⟨x',hx',d,rfl,hd⟩:=ZaC hc2 hv;rw[hx] at hx';cases hx';refine⟨_,rfl,_,rfl,_,rfl,T.tl,Ad.CT,T.dt,_,_,rfl,hT2.ob,CT.cl,CT.no _ (by decide +kernel),ZcZ ..,_,rfl,T.c,_,_,_,rfl,rfl,SqL.of hc1,ZF hv,G,r,ts,i+2,dx,lw,d,x.values,rfl,hR2,hd,fun c j hc hj=>?_,fun z=>k2 (Zm9 hb hk hx z)⟩;refine⟨_,rfl,by show 3<=sizeLine;decide,fun q hq=>?_⟩;have e:ZaF t.vars ts i=some (⟨k,j,a⟩,ts.drop (i+3)):=by rw[Zna hb hk hx hh hc hj,hp];rfl
   have hq':H q=none:=by
    have:=Z3 hq;exact(Z3 this.2).2
   have:=k1 _ e (Zaz hc) q hq';rw[ZdC];exact this
  refine⟨_,rfl,r,dx,_,rfl,hR1.ob,Zai _ _ (by decide +kernel) (by decide +kernel),G,r,ts,i+1,dx,lw,"is",rfl,hR1,fun h1=>?_,fun h1=>?_⟩
  ·refine⟨_,rfl,_,rfl,ZW ?_⟩;rw[ZdC];exact fin true (Kgf1.ascii "is") h1 (fun j=>by unfold ZbZ;rw[if_pos rfl]) _ rfl
  ·refine⟨_,rfl,_,rfl,Zar ?_⟩;refine⟨_,rfl,r,dx,_,rfl,hR1.ob,Zai _ _ (by decide +kernel) (by decide +kernel),G,r,ts,i+1,dx,lw,"not",rfl,hR1,fun h2=>?_,fun h2=>k2 (ZtM h1 h2) _ hR1.gh⟩;rw[ZdC];exact fin false (Kgf1.ascii "not") h2 (fun j=>by unfold ZbZ;rw[if_neg (by decide),if_pos rfl]) _ rfl
def Znd(Ad:Ads)(C:Addr):Sp:=fun vs H Q E=>∃G r ts i dx lw T t,vs=[.ref r,.ref T.tl]/\ZT Ad G H r ts i dx lw/\Zao Ad G H T t /\
 (∀p,ZaF t.vars ts i=some (p,ts.drop (i+3))->p.is=true->i+3<=ts.length->∀q,H q=none->Q (.ref q) (upd (Rm Ad H r dx lw (i+3)) q (.tup [iV p.var,iV p.value]))) /\
 ((∀p r,ZaF t.vars ts i=some (p,r)->p.is=false)->∀H',Zc G H'->E (.ref C) none H')
theorem Zne:Zo ["reader","tale","var"] ["reader","tale"] (Zi ZiY):=⟨rfl,rfl,rfl,by decide +kernel,rfl,by decide +kernel,by decide +kernel⟩
theorem ZtO{vs:List Kgf1.Var}{ts:List Kgf1.Tok}{i:Nat}(h1:ts[i+1]?≠some (Kgf1.kw "is")){p:Kgf1.Part}{r:List Kgf1.Tok}(h:ZaF vs ts i=some (p,r)):p.is=false:=by
 unfold ZaF at h;split at h
 ·rename_i n h' v e1 e2 e3;have a1:h'≠Kgf1.ascii "is":=fun z=>h1 (by rw[e2,z];rfl);rw[Ze6] at h;obtain⟨p',e,e4⟩:=Option.map_eq_some_iff.mp h;cases e4;obtain⟨k,_,e⟩:=Option.bind_eq_some_iff.mp e;obtain⟨x,_,e⟩:=Option.bind_eq_some_iff.mp e;obtain⟨j,_,e⟩:=Option.bind_eq_some_iff.mp e;unfold ZbZ at e;rw[if_neg a1] at e;split at e
  ·cases e;rfl
  ·cases e
 ·cases h
theorem ZtP(D:Zj K mg "read_change_part" ZiY f)(R:Rdr P w K mg base Ad C)(CT:Zv K Ad.CT Za8)
  (F1:Can P w K mg base (CX1 P w) 4 "read_var_number" ["reader","tale"] (ZiS Ad C)) (F2:Can P w K mg base (CX1 P w) 4 "read_choice_number" ["reader","choices"] (Zgn Ad C)) :
  Can P w K mg base (CX1 P w) 5 "read_change_part" ["reader","tale"] (Znd Ad C):=by
 refine D.Zap Zne (fun _ _ _ _ _ _ us hl=>match us,hl with|[_,_],_=>rfl) (fun vs H Q E h=>?_) (fun cdv A outer s H vs Q E hr h=>?_)
 ·obtain⟨G,r,ts,i,dx,lw,T,t,rfl,_⟩:=h;rfl
 ·obtain⟨G,r,ts,i,dx,lw,T,t,rfl,hR,hT,k1,k2⟩:=h;refine⟨_,Ze (Zx (i:=2) Zne.nd rfl (Or.inl rfl) (Zp F1 hr (ZJ Zt) (Za (pv 0) (Za (pv 1) Zb))))
   (Ze (ZK (Z8 (pv 0) R.cl.cl R.need hr (ZJ Zt) (Za Zad Zb)))
   (Zh (Zm (Zdi (Za (pv 2) (Za (Zp F2 hr (ZJ Zt) (Za (pv 0) (Za (ZG ZO (Zl (pv 1) rfl) (pv 2) (fun _ _=>rfl)) Zb))) Zb)))))),?_⟩
  have no:ZaF t.vars ts i=none->∀H',Zc G H'->E (.ref C) none H':=fun z=>k2 fun p r e=>by rw[z] at e;cases e
  refine⟨_,rfl,_,rfl,G,r,ts,i,dx,lw,T,t,rfl,hR,hT,fun b k hb hk=>?_,fun z=>no (Zm8 z)⟩;have hkl:=Znb hk;obtain⟨x,hx⟩:∃x,t.vars[k]?=some x:=⟨_,List.getElem?_eq_getElem hkl⟩
  have st1:Step r G H G (Rm Ad H r dx lw (i+1)):=Step.move hR;have hR1:=hR.mv (j:=i+1) (Zaz hb);refine⟨_,rfl,r,dx,_,rfl,hR1.ob,Zai _ _ (by decide +kernel) (by decide +kernel),G,r,ts,i+1,dx,lw,"is",rfl,hR1,fun hh=>?_,fun h1=>k2 (fun p r e=>ZtO h1 e) _ hR1.gh⟩;rw[ZdC];have st2:Step r G H G (Rm Ad H r dx lw (i+2)):=Step.move hR;have hR2:=hR.mv (j:=i+2) (Zaz hh);have hT2:=hT.step hR st2;obtain⟨crefs,hc1,hc2⟩:=hT2.cs.ex;obtain⟨v,hv⟩:∃v,crefs[k]?=some v:=⟨_,List.getElem?_eq_getElem (by rw[Z2 hc2];exact hkl)⟩
  obtain⟨x',hx',d,rfl,hd⟩:=ZaC hc2 hv;rw[hx] at hx';cases hx';refine⟨_,rfl,_,rfl,_,rfl,T.tl,Ad.CT,T.dt,_,_,rfl,hT2.ob,CT.cl,CT.no _ (by decide +kernel),ZcZ ..,_,rfl,T.c,_,_,_,rfl,rfl,SqL.of hc1,ZF hv,G,r,ts,i+2,dx,lw,d,x.values,rfl,hR2,hd,fun c j hc hj=>?_,fun z=>no (Zm9 hb hk hx z)⟩;refine⟨by show 2<=sizeLine;decide,fun q hq=>?_⟩;have e:ZaF t.vars ts i=some (⟨k,j,true⟩,ts.drop (i+3)):=by
   rw[Zna hb hk hx hh hc hj];have:ZbZ k j (Kgf1.ascii "is")=some ⟨k,j,true⟩:=by unfold ZbZ;rw[if_pos rfl]
   rw[this];rfl
  have hq':H q=none:=by
   have:=Z3 hq;exact(Z3 this.2).2
  have:=k1 _ e rfl (Zaz hc) q hq';rw[ZdC];exact this
end
section
variable{r lp:Addr}{G H G' H':Hp}
theorem Zi0{H:Hp}{a b:Addr}(ha:H a≠none)(h:H b=none):a≠b:=fun z=>ha (by rw[z];exact h)
theorem Step.loose(s:Step r G H G' H')(h:H lp=none)(g:G' lp=none)(o:HO):Step r G H G' (upd H' lp o) :=
 ⟨fun a u e=>by rw[Zf (Zk e g)];exact s.gh _ _ e,s.gn,fun a n ha=>by rw[Zf (Zi0 ha h)];exact s.hh a n ha,fun a ha=>by rw[Zf (Zi0 ha h)];exact s.hd a ha⟩
theorem Step.freeze{o:HO}(s:Step r G H G' H')(h:H lp=none)(e:H' lp=some o):Step r G H (upd G' lp o) H':=by
 refine⟨fun a u e1=>?_,fun a ha=>by rw[Zf (Zi0 ha h)];exact s.gn a ha,s.hh,s.hd⟩;by_cases z:a=lp
 ·subst z;rw[Zd] at e1;rw[e,e1]
 ·rw[Zf z] at e1;exact s.gh _ _ e1
theorem Step.back(s:Step r G H G' H'){p:Addr}(h:H' p=none):H p=none:=by
 cases e:H p with
 |none=>rfl
 |some o=>exact absurd h (s.hd p (by rw[e];simp))
end
theorem Znf{rec:List Kgf1.Tok->Option (Kgf1.Cond×List Kgf1.Tok)}{c:Kgf1.Cond}{ts:List Kgf1.Tok}{j:Nat}(h:ts[j]?≠some (Kgf1.kw "and")):Tl.andThen rec c (ts.drop j)=some (c,ts.drop j):=by
 cases e:ts[j]? with
 |none=>rw[ZbM e];rfl
 |some t =>
  rw[Zay e];cases t with
  |name a =>
   have ha:a≠Kgf1.ascii "and":=fun z=>h (by rw[e,z];rfl);simp only[Tl.andThen,if_neg ha]
  |_=>rfl
theorem Zi1{rec:List Kgf1.Tok->Option (Kgf1.Cond×List Kgf1.Tok)}{c c':Kgf1.Cond}{r r':List Kgf1.Tok}(h:Tl.andThen rec c r=some (c',r')):c <+: c':=by
 unfold Tl.andThen at h;split at h
 ·split at h
  ·obtain⟨x,_,e⟩:=Option.map_eq_some_iff.mp h;cases e;exact List.prefix_append _ _
  ·cases h;exact List.prefix_refl _
 ·cases h;exact List.prefix_refl _
theorem Zng{vs:List Kgf1.Var}{c:Kgf1.Cond}{ts:List Kgf1.Tok}{j:Nat}(h:ts[j]?=some (Kgf1.kw "and")):Tl.andThen (Tl.Z7 vs) c (ts.drop j)=(ZaF vs ts (j+1)).bind fun x=>Tl.andThen (Tl.Z7 vs) (c++[x.1]) x.2:=by
 rw[Zay h,←ZiW];exact Tl.Zq7 vs c _
abbrev Zi2:Stmt:=top 57
abbrev Zgp:Stmt:=top 58
abbrev Zi3:Stmt:=top 59
section
def Zi4(Ad:Ads)(C:Addr):Sp:=fun vs H Q E=>∃G r ts i dx lw T t,vs=[.ref r,.ref T.tl]/\ZT Ad G H r ts i dx lw/\Zao Ad G H T t /\
 (∀v c j G' H',Kgf1.cond t.vars (ts.drop i)=some (c,ts.drop j)->i < j->Step r G H G' H'->ZT Ad G' H' r ts j dx lw->Zaq G' v c->Q v H') /\
 (Kgf1.cond t.vars (ts.drop i)=none->∀H',Zc G H'->E (.ref C) none H')
theorem Znh:Zo ["reader","tale","parts"] ["reader","tale"] (Zi Zi2):=⟨rfl,rfl,rfl,by decide +kernel,rfl,by decide +kernel,by decide +kernel⟩
theorem ZtQ(D:Zj K mg "read_condition" Zi2 f)(R:Rdr P w K mg base Ad C)(hlen:mg "len"=none)(hM:GI mg "MOST_PARTS" 16)
  (F1:Can P w K mg base (CX1 P w) 5 "read_condition_part" ["reader","tale"] (Znc Ad C)) :
  Can P w K mg base (CX1 P w) 6 "read_condition" ["reader","tale"] (Zi4 Ad C):=by
 refine D.Zap Znh (fun _ _ _ _ _ _ us hl=>match us,hl with|[_,_],_=>rfl) (fun vs H Q E h=>?_) (fun cdv A outer s H vs Q E hr h=>?_)
 ·obtain⟨G,r,ts,i,dx,lw,T,t,rfl,_⟩:=h;rfl
 ·obtain⟨G,r,ts,i,dx,lw,T,t,rfl,hR,hT,k1,k2⟩:=h;have big:sizeLine=16777216:=by decide
  have hbig:=hR.big;refine⟨_,Ze (Zx (i:=2) Znh.nd rfl (Or.inl rfl) (ZQ (Za (Zp F1 hr (ZJ Zt) (Za (pv 0) (Za (pv 1) Zb))) Zb)))
   (Ze (ZbB (Throws.own Zt) (Zam (Z8 (pv 0) R.cl.cl R.passes hr Zs (Za Zad Zb)))
    (Zh (ZK (Zax PySem.F.plainAttrs_list PySem.F.slot_list_append PySem.F.type_list_append ZaQ (pv 2) (Za (Zp F1 hr (ZJ Zt) (Za (pv 0) (Za (pv 1) Zb))) Zb)))))
   (Ze (ZK (Zp R.check hr (ZJ Zt) (Za (ZN Z0 (by rfl) hlen PySem.boot_len (Za (pv 2) Zb)) (Za Zr (Za (Zu hM) Zb)))))
   (Zh (Zm (pv 2))))),?_⟩
  rw[Tl.Zd4,Tl.Zd3,ZiW] at k1 k2;refine⟨_,rfl,_,rfl,G,r,ts,i,dx,lw,T,t,rfl,hR,hT,fun p hp hle q hq=>?_,fun z=>k2 (by rw[z];rfl)⟩;rw[hp] at k1 k2;have st1:Step r G H _ _:=(Step.move (j:=i+3) hR).trans (Step.new (hR.mv hle).gh (p:=q) (by rw[Zcy (Zk hR.ob hq).symm];exact hq) (.tup [iV p.var,iV p.value,.bl p.is]));have ob1:upd (Rm Ad H r dx lw (i+3)) q (.tup [iV p.var,iV p.value,.bl p.is]) r=some (.ins Ad.CR dx (Zan lw (i+3))):=by rw[Zf (Zk hR.ob hq),Zgk]
  refine⟨by show 1<=sizeLine;decide,fun lp hlp=>?_⟩;have hGq:upd G q (.tup [iV p.var,iV p.value,.bl p.is]) q=some (.tup [iV p.var,iV p.value,.bl p.is]):=Zd;generalize upd (Rm Ad H r dx lw (i+3)) q (.tup [iV p.var,iV p.value,.bl p.is])=H1 at st1 ob1 hlp;generalize upd G q (.tup [iV p.var,iV p.value,.bl p.is])=G1 at st1 hGq;have hH:H lp=none:=st1.back hlp;have hG1:G1 lp=none:=st1.gh.free hlp;have hrl:r≠lp:=Zk ob1 hlp;refine ZbK (fun m σ H'=>∃(j:Nat)(G':Hp)(refs:List V)(c:Kgf1.Cond),m=ts.length - j/\σ=[some (.ref r),some (.ref T.tl),some (.ref lp)]/\i < j/\j<=ts.length/\Step r G H G' H'/\H' r=some (.ins Ad.CR dx (Zan lw j))/\H' lp=some (.lst refs)/\G' lp=none/\Paired (Zej G') refs c/\refs.length<=j /\
    Tl.andThen (Tl.Z7 t.vars) [p] (ts.drop (i+3))=Tl.andThen (Tl.Z7 t.vars) c (ts.drop j))
   (fun σ H'=>∃(j:Nat)(G':Hp)(refs:List V)(c:Kgf1.Cond),σ=[some (.ref r),some (.ref T.tl),some (.ref lp)]/\i < j/\j<=ts.length/\Step r G H G' H'/\H' r=some (.ins Ad.CR dx (Zan lw j))/\H' lp=some (.lst refs)/\G' lp=none/\Paired (Zej G') refs c /\
    Tl.andThen (Tl.Z7 t.vars) [p] (ts.drop (i+3))=some (c,ts.drop j)) ?_ ?_ ?_
  ·exact⟨_,i+3,G1,[.ref q],[p],rfl,rfl,by omega,hle,st1.loose hH hG1 _,by rw[Zf hrl];exact ob1,Zd,hG1,.cons ⟨q,rfl,hGq⟩ .nil,by show 1<=i+3;omega,rfl⟩
  ·rintro σ H' ⟨j,G',refs,c,rfl,hj,hjl,st,ob,hl,hg,hp',he⟩;have hRj:=hR.step st ob hjl;refine⟨_,rfl,lp,_,rfl,.inl (SqL.of hl),_,1,16,rfl,fun h1 h2=>?_,fun h1=>?_⟩
   ·have st':=st.freeze hH hl;have gg':Zc G' (upd G' lp (.lst refs)):=Zq hg;refine⟨_,rfl,k1 _ c j _ _ ?_ hj st' (hR.step st' ob hjl) ⟨lp,refs,rfl,Zd,Paired.ZP hp' fun _ _ z=>z.same gg'⟩⟩;show(Tl.andThen (Tl.Z7 t.vars) [p] (ts.drop (i+3))).bind _=_;rw[he];have:c.length<=16:=by rw[←Z2 hp'];omega
    show(if c.length<=16 then _ else _)=_;rw[if_pos this]
   ·refine k2 ?_ _ ((st.gg hR.gh).trans st.gh);show(Tl.andThen (Tl.Z7 t.vars) [p] (ts.drop (i+3))).bind _=_;rw[he];show(if c.length<=16 then _ else _)=_;rw[if_neg];intro z;rw[←Z2 hp'] at z;refine h1 ⟨?_,by omega⟩;have hne:c≠[]:=fun z=>by
     have:=Zi1 he;rw[z] at this;exact absurd (List.prefix_nil.mp this) (by simp)
    have:=List.length_pos_iff.mpr hne;rw[←Z2 hp'] at this;omega
  ·rintro exit m σ H' ⟨j,G',refs,c,rfl,rfl,hj,hjl,st,ob,hl,hg,hp',hrl',he⟩;have hRj:=hR.step st ob hjl;have hTj:=hT.step hR st;refine⟨_,rfl,r,dx,_,rfl,ob,Zai _ _ (by decide +kernel) (by decide +kernel),G',r,ts,j,dx,lw,"and",rfl,hRj,fun ha=>?_,fun ha=>?_⟩
   ·refine⟨_,rfl,Zee ?_⟩;rw[Zng ha] at he;have hja:=Zaz ha;have stm:Step r G' H' G' (Rm Ad H' r dx lw (j+1)):=Step.move hRj;have hRm:=hRj.mv (j:=j+1) hja;have hTm:=hTj.step hRj stm;have hlm:Rm Ad H' r dx lw (j+1) lp=some (.lst refs):=by rw[Zcy hrl.symm];exact hl
    refine⟨_,rfl,.inl ⟨rfl,_,SqL.of hlm⟩,_,rfl,_,rfl,G',r,ts,j+1,dx,lw,T,t,rfl,hRm,hTm,fun p2 hp2 hle2 q2 hq2=>?_,fun z H2 s2=>k2 ?_ H2 ((st.gg hR.gh).trans s2)⟩
    ·rw[hp2] at he;rw[ZdC];have hq2':H' q2=none:=(Z3 hq2).2;have hrq:r≠q2:=Zk ob hq2';have hlq:lp≠q2:=Zk hl hq2';have stn:Step r G' H' (upd G' q2 (.tup [iV p2.var,iV p2.value,.bl p2.is])) (upd (Rm Ad H' r dx lw (j+1+3)) q2 (.tup [iV p2.var,iV p2.value,.bl p2.is])) :=
      (Step.move (j:=j+1+3) hRj).trans (Step.new (hRj.mv hle2).gh (by rw[Zcy hrq.symm];exact hq2') _)
     have hg2:upd G' q2 (.tup [iV p2.var,iV p2.value,.bl p2.is]) lp=none:=by rw[Zf hlq];exact hg
     have gg2:Zc G' (upd G' q2 (.tup [iV p2.var,iV p2.value,.bl p2.is])):=Zq (hRj.gh.free hq2');have hl2:upd (Rm Ad H' r dx lw (j+1+3)) q2 (.tup [iV p2.var,iV p2.value,.bl p2.is]) lp=some (.lst refs):=by rw[Zf hlq,Zcy hrl.symm];exact hl
     refine⟨lp,refs,_,rfl,rfl,hl2,by omega,?_⟩;refine⟨_,?_,j+4,_,refs++[.ref q2],c++[p2],rfl,rfl,by omega,hle2,(st.trans stn).loose hH hg2 _,?_,Zd,hg2,Paired.snoc (Paired.ZP hp' fun _ _ z=>z.same gg2) ⟨q2,rfl,Zd⟩,?_,he⟩
     ·show ts.length - (j+4) < ts.length - j;omega
     ·rw[Zf hrl,Zf hrq,Zgk]
     ·rw[List.length_append];show refs.length+1<=j+4;omega
    ·show(Tl.andThen (Tl.Z7 t.vars) [p] (ts.drop (i+3))).bind _=_;rw[he,z];rfl
   ·exact⟨_,rfl,ZW (exit _ _ ⟨j,G',refs,c,rfl,hj,hjl,st,ob,hl,hg,hp',by rw[he,Znf ha]⟩)⟩
end
theorem Zi5{c:Kgf1.Cond}:Kgf1.okChange c=true↔(∀p∈c,p.is=true)/\(c.map Kgf1.Part.var).Nodup:=by
 unfold Kgf1.okChange;rw[Bool.and_eq_true,decide_eq_true_eq,List.all_eq_true]
theorem Zni{c:Kgf1.Cond}(h:¬Kgf1.okChange c=true):Kgf1.okChange c=false:=Bool.eq_false_iff.mpr h
theorem Znj{c:Kgf1.Cond}:(c.map fun p=>(p.var:Int)).Nodup↔(c.map Kgf1.Part.var).Nodup:=by
 have e:(c.map fun p=>(p.var:Int))=(c.map Kgf1.Part.var).map fun(n:Nat)=>(n:Int):=by rw[List.map_map];rfl
 rw[e];constructor
 ·intro h;rw[List.nodup_iff_pairwise_ne] at h ⊢;exact(List.pairwise_map.mp h).imp fun z y=>z (by rw[y])
 ·intro h;rw[List.nodup_iff_pairwise_ne] at h ⊢;exact List.pairwise_map.mpr (h.imp fun z y=>z (by omega))
section
def Znk(Ad:Ads)(C:Addr):Sp:=fun vs H Q E=>∃G r ts i dx lw T t,vs=[.ref r,.ref T.tl]/\ZT Ad G H r ts i dx lw/\Zao Ad G H T t /\
 (∀v c j G' H',Kgf1.cond t.vars (ts.drop i)=some (c,ts.drop j)->Kgf1.okChange c=true->i < j->Step r G H G' H'->ZT Ad G' H' r ts j dx lw->Zbu G' v c->Q v H') /\
 ((∀c r,Kgf1.cond t.vars (ts.drop i)=some (c,r)->Kgf1.okChange c=false)->∀H',Zc G H'->E (.ref C) none H')
theorem Zgq:Zo ["reader","tale","parts","part"] ["reader","tale"] (Zi Zgp):=⟨rfl,rfl,rfl,by decide +kernel,rfl,by decide +kernel,by decide +kernel⟩
def ZtR:Scope:={ kind:=.function,names:=[(".0",.local),("part",.local)],isGenerator:=false,isCoroutine:=false }
theorem ZtS:ZaT ["reader","tale","parts","part"] (Zi Zgp) ZtR [("part",3)]:=⟨rfl,by decide +kernel,by decide +kernel,by decide +kernel,by decide +kernel⟩
theorem ZtT(D:Zj K mg "read_change" Zgp f)(R:Rdr P w K mg base Ad C)(hlen:mg "len"=none)(hset:mg "set"=none)(hM:GI mg "MOST_PARTS" 16)
  (F1:Can P w K mg base (CX1 P w) 5 "read_change_part" ["reader","tale"] (Znd Ad C)) :
  Can P w K mg base (CX1 P w) 6 "read_change" ["reader","tale"] (Znk Ad C):=by
 refine D.Zap Zgq (fun _ _ _ _ _ _ us hl=>match us,hl with|[_,_],_=>rfl) (fun vs H Q E h=>?_) (fun cdv A outer s H vs Q E hr h=>?_)
 ·obtain⟨G,r,ts,i,dx,lw,T,t,rfl,_⟩:=h;rfl
 ·obtain⟨G,r,ts,i,dx,lw,T,t,rfl,hR,hT,k1,k2⟩:=h;have big:sizeLine=16777216:=by decide
  have hbig:=hR.big;refine⟨_,Ze (Zx (i:=2) Zgq.nd rfl (Or.inl rfl) (ZQ (Za (Zp F1 hr (ZJ Zt) (Za (pv 0) (Za (pv 1) Zb))) Zb)))
   (Ze (ZbB (Throws.own Zt) (Zam (Z8 (pv 0) R.cl.cl R.passes hr Zs (Za Zad Zb)))
    (Zh (ZK (Zax PySem.F.plainAttrs_list PySem.F.slot_list_append PySem.F.type_list_append ZaQ (pv 2) (Za (Zp F1 hr (ZJ Zt) (Za (pv 0) (Za (pv 1) Zb))) Zb)))))
   (Ze (ZK (Zp R.check hr (ZJ Zt) (Za (ZN Z0 (by rfl) hlen PySem.boot_len (Za (pv 2) Zb)) (Za Zr (Za (Zu hM) Zb)))))
   (Ze (Zy (ZC Zdg (ZN Zsm (by rfl) hlen PySem.boot_len (Za (Zfw (Zsl rfl) (by rfl) hset (show bootBuiltins "set"=some (.type "set") by decide +kernel)
     (Za (Zbr (own:=[("part",3)]) (tt:=ZaU) (te:=tOp (ZkA K) (ZH 3) (tC (.int 0))) rfl Zgq.nd (Zaw (pv 2)) ZtS (fun _ _ _ _ _=>ZL (i:=3) Zgq.nd rfl (Or.inl rfl)) (fun _ _ _ _ _=>Zb9) (fun _ _ _ _ _=>ZG Zfy (pv 3) Zr (fun _ _=>rfl))) Zb)) Zb))
     (ZN Z0 (by rfl) hlen PySem.boot_len (Za (pv 2) Zb)) (Zz _)) (Zh (Zbd Zt R.NE)) ZD)
   (Zh (Zm (pv 2)))))),?_⟩
  rw[Tl.Zd4,Tl.Zd3,ZiW] at k1 k2;have bad:∀{c:Kgf1.Cond}{ts':List Kgf1.Tok}{j:Nat},(∀p r,ZaF t.vars ts' j=some (p,r)->p.is=false)->∀c' r',((ZaF t.vars ts' j).bind fun x=>Tl.andThen (Tl.Z7 t.vars) (c++[x.1]) x.2)=some (c',r')->Kgf1.okChange c'=false:=by
   intro c ts' j h c' r' e;obtain⟨x,e1,e2⟩:=Option.bind_eq_some_iff.mp e;have hx:=h x.1 x.2 e1;have hm:x.1∈c':=(Zi1 e2).subset (by simp);refine Zni fun z=>?_;have:=(Zi5.mp z).1 _ hm;rw[hx] at this;cases this
  refine⟨_,rfl,_,rfl,G,r,ts,i,dx,lw,T,t,rfl,hR,hT,fun p hp hpis hle q hq=>?_,fun z=>k2 fun c' r' e=>?_⟩;rotate_left
  ·obtain⟨y,e1,e2⟩:=Option.bind_eq_some_iff.mp e;split at e2
   ·cases e2;exact bad (c:=[]) z _ _ e1
   ·cases e2
  rw[hp] at k1 k2;have st1:Step r G H _ _:=(Step.move (j:=i+3) hR).trans (Step.new (hR.mv hle).gh (p:=q) (by rw[Zcy (Zk hR.ob hq).symm];exact hq) (.tup [iV p.var,iV p.value]));have ob1:upd (Rm Ad H r dx lw (i+3)) q (.tup [iV p.var,iV p.value]) r=some (.ins Ad.CR dx (Zan lw (i+3))):=by rw[Zf (Zk hR.ob hq),Zgk]
  refine⟨by show 1<=sizeLine;decide,fun lp hlp=>?_⟩;have hGq:upd G q (.tup [iV p.var,iV p.value]) q=some (.tup [iV p.var,iV p.value]):=Zd;generalize upd (Rm Ad H r dx lw (i+3)) q (.tup [iV p.var,iV p.value])=H1 at st1 ob1 hlp;generalize upd G q (.tup [iV p.var,iV p.value])=G1 at st1 hGq;have hH:H lp=none:=st1.back hlp;have hG1:G1 lp=none:=st1.gh.free hlp;have hrl:r≠lp:=Zk ob1 hlp;refine ZbK (fun m σ H'=>∃(j:Nat)(G':Hp)(refs:List V)(c:Kgf1.Cond),m=ts.length - j/\σ=[some (.ref r),some (.ref T.tl),some (.ref lp),none]/\i < j/\j<=ts.length/\Step r G H G' H'/\H' r=some (.ins Ad.CR dx (Zan lw j))/\H' lp=some (.lst refs)/\G' lp=none/\Paired (Zek G') refs c/\refs.length<=j /\
    Tl.andThen (Tl.Z7 t.vars) [p] (ts.drop (i+3))=Tl.andThen (Tl.Z7 t.vars) c (ts.drop j))
   (fun σ H'=>∃(j:Nat)(G':Hp)(refs:List V)(c:Kgf1.Cond),σ=[some (.ref r),some (.ref T.tl),some (.ref lp),none]/\i < j/\j<=ts.length/\Step r G H G' H'/\H' r=some (.ins Ad.CR dx (Zan lw j))/\H' lp=some (.lst refs)/\G' lp=none/\Paired (Zek G') refs c /\
    Tl.andThen (Tl.Z7 t.vars) [p] (ts.drop (i+3))=some (c,ts.drop j)) ?_ ?_ ?_
  ·exact⟨_,i+3,G1,[.ref q],[p],rfl,rfl,by omega,hle,st1.loose hH hG1 _,by rw[Zf hrl];exact ob1,Zd,hG1,.cons ⟨hpis,q,rfl,hGq⟩ .nil,by show 1<=i+3;omega,rfl⟩
  ·rintro σ H' ⟨j,G',refs,c,rfl,hj,hjl,st,ob,hl,hg,hp',he⟩;have hlen':=Z2 hp';have kk:∀{o:Option (Kgf1.Cond×List Kgf1.Tok)},(if c.length<=16 then some (c,ts.drop j) else none)=o->((some (p,ts.drop (i+3)):Option (Kgf1.Part×List Kgf1.Tok)).bind fun x=>Tl.andThen (Tl.Z7 t.vars) [x.1] x.2).bind (fun x=>if x.1.length<=16 then some x else none)=o:=fun{o} z=>by
    show(Tl.andThen (Tl.Z7 t.vars) [p] (ts.drop (i+3))).bind _=_;rw[he];exact z
   have hne:c≠[]:=fun z=>by
    have:=Zi1 he;rw[z] at this;exact absurd (List.prefix_nil.mp this) (by simp)
   have hpos:=List.length_pos_iff.mpr hne;refine⟨_,rfl,lp,_,rfl,.inl (SqL.of hl),_,1,16,rfl,fun h1 h2=>?_,fun h1=>?_⟩;rotate_left
   ·refine k2 (fun c' r' e=>?_) _ ((st.gg hR.gh).trans st.gh);rw[kk (o:=none) (if_neg fun z=>h1 ⟨by omega,by omega⟩)] at e;cases e
   have h16:c.length<=16:=by omega
   refine⟨_,rfl,lp,rfl,⟨_,SqL.of hl⟩,fun Dl hD=>?_⟩;have s1:∀o,Zc H' (upd H' Dl o):=fun o=>Zq hD;refine ZcN (K:=K) (a:=lp) (xs:=refs) (fun m H2=>∃acc,H2=upd H' Dl (.lst acc)/\acc=(c.take m).map (fun p=>iV p.var)/\m<=refs.length) ⟨[],rfl,rfl,Nat.zero_le _⟩ (fun m H2 _ ⟨acc,e,_⟩=>by rw[e];exact SqL.of (s1 _ _ _ hl)) ?_ ?_
   ·rintro m x H2 hx ⟨acc,rfl,ha,hm⟩;obtain⟨y,hy,_,q2,rfl,hq2⟩:=ZaC hp' hx;have hml:m < refs.length:=(List.getElem?_eq_some_iff.mp hx).1;refine⟨rfl,?_⟩;simp only[ZaU,if_true];refine⟨_,rfl,q2,_,_,_,rfl,rfl,SqT.of (s1 _ _ _ (st.gh _ _ hq2)),ZF (j:=0) rfl,acc,Zd,?_,acc++[iV y.var],by rw[Z5],?_,hml⟩
    ·rw[ha,List.length_map,List.length_take];omega
    ·rw[ha,List.take_add_one,hy,List.map_append];rfl
   ·rintro H2 ⟨acc,rfl,ha,_⟩;rw[hlen',List.take_length] at ha;have eacc:acc=(c.map fun p=>(p.var:Int)).map V.int:=by rw[ha,List.map_map];rfl
    refine⟨Dl,c.map fun p=>(p.var:Int),rfl,SqL.of (by rw[Zd,eacc]),by rw[List.length_map];omega,fun sp S hsp=>?_⟩;have hls:upd (upd H' Dl (.lst acc)) sp (.set S (diff (c.map fun p=>(p.var:Int)))) lp=some (.lst refs):=by
     have h1:upd H' Dl (.lst acc) lp=some (.lst refs):=s1 _ _ _ hl;rw[Zf (Zk h1 hsp)];exact h1
    refine⟨sp,S,_,rfl,Zd,_,rfl,lp,_,rfl,.inl (SqL.of hls),rfl,_,rfl,?_⟩;have hDl:H Dl=none:=st.back hD;have hDg:G' Dl=none:=st.gh.free hD;have st2:=st.loose hDl hDg (.lst acc);have hsl:H sp=none:=st2.back hsp;have hsg:G' sp=none:=st2.gh.free hsp;have st3:=st2.loose hsl hsg (.set S (diff (c.map fun p=>(p.var:Int))));have ob3:upd (upd H' Dl (.lst acc)) sp (.set S (diff (c.map fun p=>(p.var:Int)))) r=some (.ins Ad.CR dx (Zan lw j)):=by
     have h1:upd H' Dl (.lst acc) r=some (.ins Ad.CR dx (Zan lw j)):=s1 _ _ _ ob;rw[Zf (Zk h1 hsp)];exact h1
    have hall:∀p∈c,p.is=true:=fun p' hp2=>by
     obtain⟨m,hm,em⟩:=List.getElem_of_mem hp2;obtain⟨v,hv⟩:∃v,refs[m]?=some v:=⟨_,List.getElem?_eq_getElem (by omega)⟩
     obtain⟨y,hy,hyis,_⟩:=ZaC hp' hv;rw[List.getElem?_eq_getElem hm] at hy;have:p'=y:=by rw[←em];exact Option.some.inj hy
     rw[this];exact hyis
    have hlc:(c.map fun p=>(p.var:Int)).length=refs.length:=by rw[List.length_map,hlen']
    by_cases hnd:(c.map fun p=>(p.var:Int)).Nodup
    ·have ed:diff (c.map fun p=>(p.var:Int))=refs.length:=by rw[(Zmd _).mpr hnd,hlc]
     refine Zbt (by rw[ed]) ?_;have st4:=st3.freeze hH hls;have gg':Zc G' (upd G' lp (.lst refs)):=Zq hg;exact⟨_,rfl,k1 _ c j _ _ (kk (if_pos h16)) (Zi5.mpr ⟨hall,Znj.mp hnd⟩) hj st4 (hR.step st4 ob3 hjl) ⟨lp,refs,rfl,Zd,Paired.ZP hp' fun _ _ z=>z.same gg'⟩⟩
    ·refine ZbW (fun z=>hnd ((Zmd _).mp ?_)) (k2 (fun c' r' e=>?_) _ ((st3.gg hR.gh).trans st3.gh))
     ·have:=V.int.inj z;rw[hlc];omega
     ·rw[kk (if_pos h16)] at e;cases e;exact Zni fun z=>hnd (Znj.mpr (Zi5.mp z).2)
  ·rintro exit m σ H' ⟨j,G',refs,c,rfl,rfl,hj,hjl,st,ob,hl,hg,hp',hrl',he⟩;have hRj:=hR.step st ob hjl;have hTj:=hT.step hR st;refine⟨_,rfl,r,dx,_,rfl,ob,Zai _ _ (by decide +kernel) (by decide +kernel),G',r,ts,j,dx,lw,"and",rfl,hRj,fun ha=>?_,fun ha=>?_⟩
   ·refine⟨_,rfl,Zee ?_⟩;rw[Zng ha] at he;have hja:=Zaz ha;have stm:Step r G' H' G' (Rm Ad H' r dx lw (j+1)):=Step.move hRj;have hRm:=hRj.mv (j:=j+1) hja;have hTm:=hTj.step hRj stm;have hlm:Rm Ad H' r dx lw (j+1) lp=some (.lst refs):=by rw[Zcy hrl.symm];exact hl
    refine⟨_,rfl,.inl ⟨rfl,_,SqL.of hlm⟩,_,rfl,_,rfl,G',r,ts,j+1,dx,lw,T,t,rfl,hRm,hTm,fun p2 hp2 hpis2 hle2 q2 hq2=>?_,fun z H2 s2=>k2 (fun c' r' e=>?_) H2 ((st.gg hR.gh).trans s2)⟩
    ·rw[hp2] at he;rw[ZdC];have hq2':H' q2=none:=(Z3 hq2).2;have hrq:r≠q2:=Zk ob hq2';have hlq:lp≠q2:=Zk hl hq2';have stn:Step r G' H' (upd G' q2 (.tup [iV p2.var,iV p2.value])) (upd (Rm Ad H' r dx lw (j+1+3)) q2 (.tup [iV p2.var,iV p2.value])) :=
      (Step.move (j:=j+1+3) hRj).trans (Step.new (hRj.mv hle2).gh (by rw[Zcy hrq.symm];exact hq2') _)
     have hg2:upd G' q2 (.tup [iV p2.var,iV p2.value]) lp=none:=by rw[Zf hlq];exact hg
     have gg2:Zc G' (upd G' q2 (.tup [iV p2.var,iV p2.value])):=Zq (hRj.gh.free hq2');have hl2:upd (Rm Ad H' r dx lw (j+1+3)) q2 (.tup [iV p2.var,iV p2.value]) lp=some (.lst refs):=by rw[Zf hlq,Zcy hrl.symm];exact hl
     refine⟨lp,refs,_,rfl,rfl,hl2,by omega,?_⟩;refine⟨_,?_,j+4,_,refs++[.ref q2],c++[p2],rfl,rfl,by omega,hle2,(st.trans stn).loose hH hg2 _,?_,Zd,hg2,Paired.snoc (Paired.ZP hp' fun _ _ z=>z.same gg2) ⟨hpis2,q2,rfl,Zd⟩,?_,he⟩
     ·show ts.length - (j+4) < ts.length - j;omega
     ·rw[Zf hrl,Zf hrq,Zgk]
     ·rw[List.length_append];show refs.length+1<=j+4;omega
    ·have e':(Tl.andThen (Tl.Z7 t.vars) [p] (ts.drop (i+3))).bind (fun x=>if x.1.length<=16 then some x else none)=some (c',r'):=e;rw[he] at e';obtain⟨y,e1,e2⟩:=Option.bind_eq_some_iff.mp e';split at e2
     ·cases e2;exact bad z _ _ e1
     ·cases e2
   ·exact⟨_,rfl,ZW (exit _ _ ⟨j,G',refs,c,rfl,hj,hjl,st,ob,hl,hg,hp',by rw[he,Znf ha]⟩)⟩
theorem Znl{vs:List Kgf1.Var}{s:String}{ts:List Kgf1.Tok}{i:Nat}(h:ts[i]?=some (Kgf1.kw s)):Kgf1.maybe vs s (ts.drop i)=Kgf1.cond vs (ts.drop (i+1)):=by
 rw[Zay h];show(if Kgf1.kw s=Kgf1.kw s then _ else _)=_;rw[if_pos rfl]
theorem Znm{vs:List Kgf1.Var}{s:String}{ts:List Kgf1.Tok}{i:Nat}(h:ts[i]?≠some (Kgf1.kw s)):Kgf1.maybe vs s (ts.drop i)=some ([],ts.drop i):=by
 cases e:ts[i]? with
 |none=>rw[ZbM e];rfl
 |some t =>
  rw[Zay e];show(if t=Kgf1.kw s then _ else _)=_;rw[if_neg fun z=>h (by rw[e,z])]
def Zi6(Ad:Ads)(C:Addr):Sp:=fun vs H Q E=>∃G r ts i dx lw T t,vs=[.ref r,.ref T.tl]/\ZT Ad G H r ts i dx lw/\Zao Ad G H T t /\
 (∀v c j G' H',Kgf1.maybe t.vars "if" (ts.drop i)=some (c,ts.drop j)->i<=j->Step r G H G' H'->ZT Ad G' H' r ts j dx lw->Zaq G' v c->Q v H') /\
 (Kgf1.maybe t.vars "if" (ts.drop i)=none->∀H',Zc G H'->E (.ref C) none H')
theorem ZtU:Zo ["reader","tale"] ["reader","tale"] (Zi Zi3):=⟨rfl,rfl,rfl,by decide +kernel,rfl,by decide +kernel,by decide +kernel⟩
theorem ZtV(D:Zj K mg "read_if" Zi3 f)(R:Rdr P w K mg base Ad C)
  (F1:Can P w K mg base (CX1 P w) 6 "read_condition" ["reader","tale"] (Zi4 Ad C)) :
  Can P w K mg base (CX1 P w) 7 "read_if" ["reader","tale"] (Zi6 Ad C):=by
 refine D.Zap ZtU (fun _ _ _ _ _ _ us hl=>match us,hl with|[_,_],_=>rfl) (fun vs H Q E h=>?_) (fun cdv A outer s H vs Q E hr h=>?_)
 ·obtain⟨G,r,ts,i,dx,lw,T,t,rfl,_⟩:=h;rfl
 ·obtain⟨G,r,ts,i,dx,lw,T,t,rfl,hR,hT,k1,k2⟩:=h;refine⟨_,Ze (Zy (Zam (Z8 (pv 0) R.cl.cl R.passes hr Zs (Za Zad Zb))) (Zh (Zm (Zp F1 hr (ZJ Zt) (Za (pv 0) (Za (pv 1) Zb))))) ZD)
   (Zh (Zm (ZQ Zb))),?_⟩
  refine⟨_,rfl,r,dx,_,rfl,hR.ob,Zai _ _ (by decide +kernel) (by decide +kernel),G,r,ts,i,dx,lw,"if",rfl,hR,fun ha=>?_,fun ha=>?_⟩
  ·rw[Znl ha] at k1 k2;have stm:Step r G H G (Rm Ad H r dx lw (i+1)):=Step.move hR;have hRm:=hR.mv (j:=i+1) (Zaz ha);have hTm:=hT.step hR stm;exact⟨_,rfl,Zar ⟨_,rfl,_,rfl,G,r,ts,i+1,dx,lw,T,t,rfl,hRm,hTm,fun v c j G' H' e hj st hRj hc=>k1 v c j G' H' e (by omega) (stm.trans st) hRj hc,k2⟩⟩
  ·rw[Znm ha] at k1 k2;exact⟨_,rfl,ZW ⟨by show 0<=sizeLine;decide,fun lp hlp=>k1 _ [] i _ _ rfl (Nat.le_refl _) (Step.new hR.gh hlp _) (hR.new hlp _) ⟨lp,[],rfl,Zd,.nil⟩⟩⟩
end
abbrev Zi7:Stmt:=top 60
abbrev Zi8:Stmt:=top 61
abbrev Zi9:Stmt:=top 62
abbrev Zja:Stmt:=top 63
section
def Znn(C:Addr):Sp:=fun vs H Q E=>∃(G:Hp)(a:Addr)(bs:List Nat),vs=[.ref a]/\Zc G H/\G a=some (.lst (bs.map iV))/\bs.length<=30000 /\
 (Kgf1.okWords bs=true->∀p o,H p=none->Q .non (upd H p o))/\(Kgf1.okWords bs=false->∀H',Zc G H'->E (.ref C) none H')
theorem Zno:Zo ["typed","code"] ["typed"] (Zi Zi7):=⟨rfl,rfl,rfl,by decide +kernel,rfl,by decide +kernel,by decide +kernel⟩
theorem ZtW(D:Zj K mg "check_typed" Zi7 f)(NE:NT K mg C)(hlen:mg "len"=none)(hM:GI mg "MOST_TYPED" 40)(hB:GI mg "BLANK" 32)
  (F0:Can P w K mg base (CX1 P w) 1 "check_count" ["count","least","most"] (Zgj C)) (F1:Can P w K mg base CX0 1 "is_letter" ["code"] (ZbV Kgf1.isSmall)) (F2:Can P w K mg base CX0 1 "is_digit" ["code"] (ZbV Kgf1.isDigit))
  (F3:Can P w K mg base CX0 2 "plain_line" ["line"] (Zii K)) :
  Can P w K mg base (CX1 P w) 3 "check_typed" ["typed"] (Znn C):=by
 refine D.Zap Zno (fun _ _ _ _ _ _ us hl=>match us,hl with|[_],_=>rfl) (fun vs H Q E h=>?_) (fun cdv A outer s H vs Q E hr h=>?_)
 ·obtain⟨G,a,bs,rfl,_⟩:=h;rfl
 ·obtain⟨G,a,bs,rfl,gh,ga,hz,k1,k2⟩:=h;have ha:=gh _ _ ga;refine⟨_,Ze (ZK (Zp F0 hr (ZJ Zt) (Za (ZN Z0 (by rfl) hlen PySem.boot_len (Za (pv 0) Zb)) (Za Zr (Za (Zu hM) Zb)))))
   (Ze (Za1 (Throws.own Zt) rfl (Zaw (pv 0)) (ZL (i:=1) Zno.nd rfl (Or.inl rfl))
    (Zh (Zy (ZcI (ZeA (Zam (Zp F1 hr Zs (Za (pv 1) Zb))) (ZeA (Zam (Zp F2 hr Zs (Za (pv 1) Zb))) (Zfq (ZC Z9 (pv 1) (Zu hB) (Zz _))))).pt) (Zh (Zbd Zt NE)) ZD)))
   (Zh (Zy (ZC (Zp8 hr.units) (Zp F3 hr Zs (Za (pv 0) Zb)) (pv 0) (Zz _)) (Zh (Zbd Zt NE)) ZD))),?_⟩
  rw[Tl.ZrA] at k1 k2;refine⟨_,rfl,a,_,rfl,.inl (SqL.of ha),_,1,40,rfl,fun h1 h2=>?_,fun h1=>k2 ?_ _ gh⟩;rotate_left
  ·rw[map_len] at h1;by_cases z1:1<=bs.length
   ·by_cases z2:bs.length<=40
    ·exact absurd ⟨by omega,by omega⟩ h1
    ·simp[z2]
   ·simp[z1]
  rw[map_len] at h1 h2;have e1:decide (1<=bs.length)=true:=decide_eq_true (by omega);have e2:decide (bs.length<=40)=true:=decide_eq_true (by omega);rw[e1,e2,Bool.true_and,Bool.true_and] at k1 k2;refine⟨_,rfl,a,rfl,⟨_,SqL.of ha⟩,Za9 (K:=K) (a:=a) (xs:=bs.map iV) (fun i σ H'=>H'=H/\(∃oc,σ=[some (.ref a),oc])/\∀x∈bs.take i,Tl.Za5 x=true) ⟨rfl,⟨none,rfl⟩,by simp⟩ (fun i σ H' _ ⟨e,_⟩=>by rw[e];exact SqL.of ha) ?_ ?_⟩
  ·rintro i x σ H' hx ⟨rfl,⟨oc,rfl⟩,hh⟩;obtain⟨c,hc,rfl⟩:∃c,bs[i]?=some c/\iV c=x:=by
    rw[List.getElem?_map] at hx;cases e:bs[i]? with
    |none=>rw[e] at hx;cases hx
    |some c=>rw[e] at hx;exact⟨c,rfl,Option.some.inj hx⟩
   have ok:Tl.Za5 c=true->∀y∈bs.take (i+1),Tl.Za5 y=true:=fun hc' y hy=>by
    rw[List.take_add_one,hc] at hy;rcases List.mem_append.mp hy with z|z
    ·exact hh y z
    ·have:y=c:=by simpa using z
     rw[this];exact hc'
   have no:Tl.Za5 c=false->E (.ref C) none H':=fun hc'=>k2 (by
    have:bs.all Tl.Za5=false:=List.all_eq_false.mpr ⟨c,List.mem_of_getElem? hc,by rw[hc'];decide⟩;rw[this];rfl) _ gh
   refine⟨_,rfl,c,rfl,_,rfl,?_⟩;cases q1:Kgf1.isSmall c with
   |true=>exact Zar (ZW ⟨rfl,⟨_,rfl⟩,ok (by unfold Tl.Za5;rw[q1];rfl)⟩)
   |false =>
    refine ZW ⟨_,rfl,c,rfl,_,rfl,?_⟩;cases q2:Kgf1.isDigit c with
    |true=>exact Zar (ZW ⟨rfl,⟨_,rfl⟩,ok (by unfold Tl.Za5;rw[q1,q2];rfl)⟩)
    |false =>
     refine ZW ⟨_,rfl,rfl,_,rfl,?_⟩;by_cases q3:c=32
     ·refine Zbt (Zau.mpr (by omega)) ⟨rfl,⟨_,rfl⟩,ok ?_⟩;unfold Tl.Za5;rw[q3];decide
     ·refine ZbW (fun z=>q3 (by have:=Zau.mp z;omega)) (no ?_);unfold Tl.Za5;rw[q1,q2];simp[q3]
  ·rintro σ H' ⟨rfl,⟨oc,rfl⟩,hh⟩;rw[List.length_map,List.take_length] at hh;have e3:bs.all Tl.Za5=true:=List.all_eq_true.mpr hh;rw[e3,Bool.true_and] at k1 k2;refine⟨_,rfl,a,bs,rfl,SqL.of ha,hz,fun p hp=>?_⟩;have s1:Zc H' (upd H' p (.lst ((Kgf1.plain bs).map iV))):=Zq hp;refine⟨_,rfl,_,_,Zgc (SqL.of Zd),Zgc (SqL.of (s1 _ _ ha)),Zgd _,Zgd _,_,rfl,?_⟩;rw[ZmC];by_cases hq:Kgf1.plain bs=bs
   ·exact Zbt hq (k1 (decide_eq_true hq) p _ hp)
   ·exact ZbW hq (k2 (decide_eq_false hq) _ (gh.trans s1))
end
def Zcj(t:Kgf1.Tale)(w:Kgf1.Bytes)(c d:Kgf1.Cond):List Kgf1.Tok->Option (Kgf1.Tale×List Kgf1.Tok)
 |.name y::.str x::r=>if y=Kgf1.ascii "say" then some ({ t with whens:=t.whens++[⟨w,c,d,x⟩] },r) else none
 |_=>none
theorem ZtX(t:Kgf1.Tale)(w:Kgf1.Bytes)(c d:Kgf1.Cond)(ts:List Kgf1.Tok):Tl.ZcQ t w c d ts=(Zcj t w c d ts).bind fun x=>Tl.Zat x.1 x.2:=by
 match ts with
 |.name y::.str x::r =>
  show(if y=Kgf1.ascii "say" then Tl.Zat _ r else none)=(if y=Kgf1.ascii "say" then some (_,r) else none:Option (Kgf1.Tale×List Kgf1.Tok)).bind _;split<;>rfl
 |[]=>rfl
 |.eq::_=>rfl
 |.semi::_=>rfl
 |.str _::_=>rfl
 |[.name _]=>rfl
 |.name _::.name _::_=>rfl
 |.name _::.eq::_=>rfl
 |.name _::.semi::_=>rfl
def Zc3(t:Kgf1.Tale):List Kgf1.Tok->Option (Kgf1.Tale×List Kgf1.Tok)
 |.str w::q=>if Kgf1.okWords w=true then(Kgf1.maybe t.vars "if" q).bind fun c=>(Kgf1.maybe t.vars "do" c.2).bind fun d=>if Kgf1.okChange d.1=true then Zcj t w c.1 d.1 d.2 else none else none
 |_=>none
theorem ZtY(t:Kgf1.Tale)(ts:List Kgf1.Tok):Tl.ZcR t ts=(Zc3 t ts).bind fun x=>Tl.Zat x.1 x.2:=by
 match ts with
 |.name _::_=>rfl
 |[]=>rfl
 |.eq::_=>rfl
 |.semi::_=>rfl
 |.str w::q =>
  show(if Kgf1.okWords w=true then _ else _)=(if Kgf1.okWords w=true then _ else _:Option (Kgf1.Tale×List Kgf1.Tok)).bind _;split
  ·cases Kgf1.maybe t.vars "if" q with
   |none=>rfl
   |some c =>
    show((Kgf1.maybe t.vars "do" c.2).bind _)=((Kgf1.maybe t.vars "do" c.2).bind _).bind _;cases Kgf1.maybe t.vars "do" c.2 with
    |none=>rfl
    |some d =>
     show(if Kgf1.okChange d.1=true then _ else _)=(if Kgf1.okChange d.1=true then _ else _:Option (Kgf1.Tale×List Kgf1.Tok)).bind _;split
     ·exact ZtX ..
     ·rfl
  ·rfl
def ZdD(t:Kgf1.Tale):List Kgf1.Tok->Option (Kgf1.Tale×List Kgf1.Tok)
 |.str x::q=>(Kgf1.maybe t.vars "if" q).map fun c=>({ t with shows:=t.shows++[⟨x,c.1⟩] },c.2)
 |_=>none
theorem ZtZ(t:Kgf1.Tale)(ts:List Kgf1.Tok):Tl.ZcS t ts=(ZdD t ts).bind fun x=>Tl.Zat x.1 x.2:=by
 match ts with
 |.name _::_=>rfl
 |[]=>rfl
 |.eq::_=>rfl
 |.semi::_=>rfl
 |.str x::q =>
  show(Kgf1.maybe t.vars "if" q).bind _=((Kgf1.maybe t.vars "if" q).map _).bind _;cases Kgf1.maybe t.vars "if" q<;>rfl
def Zcz(t:Kgf1.Tale)(f:Kgf1.Cond->Kgf1.Tale):List Kgf1.Tok->Option (Kgf1.Tale×List Kgf1.Tok)
 |i::q=>if i=Kgf1.kw "if" then(Kgf1.cond t.vars q).map fun c=>(f c.1,c.2) else none
 |_=>none
theorem Znp(t:Kgf1.Tale)(f:Kgf1.Cond->Kgf1.Tale)(ts:List Kgf1.Tok):Tl.ZbE t f ts=(Zcz t f ts).bind fun x=>Tl.Zat x.1 x.2:=by
 match ts with
 |[]=>rfl
 |i::q =>
  show(if i=Kgf1.kw "if" then _ else _)=(if i=Kgf1.kw "if" then _ else _:Option (Kgf1.Tale×List Kgf1.Tok)).bind _;split
  ·cases Kgf1.cond t.vars q<;>rfl
  ·rfl
section
variable{Ad:Ads}{G H:Hp}{T:Tl6}{t:Kgf1.Tale}{refs:List V}{v:V}
theorem Zao.list(h:Zao Ad G H T t){a:Addr}{o:List V}{rs:List V}(ha:H a=some (.lst rs)):upd H a (.lst o) T.tl=some (.ins Ad.CT T.dt (ZaZ T.n T.c T.w T.s T.o T.l))/\upd H a (.lst o) T.n=some (.dK (kvsOf (t.vars.map Kgf1.Var.name))) :=
 ⟨by rw[Zf (Z6 h.ob ha (by intro z;cases z))];exact h.ob,by rw[Zf (Z6 h.nm ha (by intro z;cases z))];exact h.nm⟩
theorem Zao.Zt0(h:Zao Ad G H T t){x:Kgf1.When}(ha:H T.w=some (.lst refs))(hp:Paired (Zbf Ad.CW G) refs t.whens)(hv:Zbf Ad.CW G v x):Zao Ad G (upd H T.w (.lst (refs++[v]))) T { t with whens:=t.whens++[x] }:=by
 obtain⟨⟨n1,n2,n3,n4⟩,⟨m1,m2,m3⟩,⟨p1,p2⟩,q1⟩:=nd5 h.nd;obtain⟨a1,a2⟩:=h.list (o:=refs++[v]) ha;exact⟨a1,a2,h.nn,h.cs.other n1,Grows.push hp h.ws.no hv,h.ss.other m1.symm,h.os.other m2.symm,h.ls.other m3.symm,h.nd⟩
theorem Zao.pushS(h:Zao Ad G H T t){x:Kgf1.Show}(ha:H T.s=some (.lst refs))(hp:Paired (Zc0 Ad.CS G) refs t.shows)(hv:Zc0 Ad.CS G v x):Zao Ad G (upd H T.s (.lst (refs++[v]))) T { t with shows:=t.shows++[x] }:=by
 obtain⟨⟨n1,n2,n3,n4⟩,⟨m1,m2,m3⟩,⟨p1,p2⟩,q1⟩:=nd5 h.nd;obtain⟨a1,a2⟩:=h.list (o:=refs++[v]) ha;exact⟨a1,a2,h.nn,h.cs.other n2,h.ws.other m1,Grows.push hp h.ss.no hv,h.os.other p1.symm,h.ls.other p2.symm,h.nd⟩
theorem Zao.Zt1(h:Zao Ad G H T t){x:Kgf1.Cond}(ha:H T.o=some (.lst refs))(hp:Paired (Zaq G) refs t.wons)(hv:Zaq G v x):Zao Ad G (upd H T.o (.lst (refs++[v]))) T { t with wons:=t.wons++[x] }:=by
 obtain⟨⟨n1,n2,n3,n4⟩,⟨m1,m2,m3⟩,⟨p1,p2⟩,q1⟩:=nd5 h.nd;obtain⟨a1,a2⟩:=h.list (o:=refs++[v]) ha;exact⟨a1,a2,h.nn,h.cs.other n3,h.ws.other m2,h.ss.other p1,Grows.push hp h.os.no hv,h.ls.other q1.symm,h.nd⟩
theorem Zao.Zt2(h:Zao Ad G H T t){x:Kgf1.Cond}(ha:H T.l=some (.lst refs))(hp:Paired (Zaq G) refs t.losts)(hv:Zaq G v x):Zao Ad G (upd H T.l (.lst (refs++[v]))) T { t with losts:=t.losts++[x] }:=by
 obtain⟨⟨n1,n2,n3,n4⟩,⟨m1,m2,m3⟩,⟨p1,p2⟩,q1⟩:=nd5 h.nd;obtain⟨a1,a2⟩:=h.list (o:=refs++[v]) ha;exact⟨a1,a2,h.nn,h.cs.other n4,h.ws.other m3,h.ss.other p2,h.os.other q1,Grows.push hp h.ls.no hv,h.nd⟩
end
section
theorem Znq:Zo ["reader","tale","told"] ["reader","tale"] (Zi Zi9):=⟨rfl,rfl,rfl,by decide +kernel,rfl,by decide +kernel,by decide +kernel⟩
theorem str_none{ts:List Kgf1.Tok}{i:Nat}(z:ZaM ts i "string"=false){α:Type}(g:List Kgf1.Tok->Option α)(hg:∀r,(∀b q,r≠Kgf1.Tok.str b::q)->g r=none):g (ts.drop i)=none:=by
 refine hg _ fun b q e=>?_;cases e1:ts[i]? with
 |none=>rw[ZbM e1] at e;cases e
 |some t' =>
  rw[Zay e1] at e;cases e;exact absurd rfl (Zgo z e1)
theorem Zt3(D:Zj K mg "read_show" Zi9 f)(R:Rdr P w K mg base Ad C)(CT:Zv K Ad.CT Za8)
  (F1:Can P w K mg base (CX1 P w) 7 "read_if" ["reader","tale"] (Zi6 Ad C)) (F2:ZaS P w K mg base CX0 1 "Show" Ad.CS ["self","told","condition"] (ZmO Ad.CS)) :
  Can P w K mg base (CX1 P w) 8 "read_show" ["reader","tale"] (Zc2 Ad C ZdD):=by
 refine D.Zap Znq (fun _ _ _ _ _ _ us hl=>match us,hl with|[_,_],_=>rfl) (fun vs H Q E h=>?_) (fun cdv A outer s H vs Q E hr h=>?_)
 ·obtain⟨G,r,ts,i,dx,lw,T,t,rfl,_⟩:=h;rfl
 ·obtain⟨G,r,ts,i,dx,lw,T,t,rfl,hG,k1,k2⟩:=h;have hR:=hG.R;have hT:=hG.T;have big:sizeLine=16777216:=by decide
  refine⟨_,Ze (Zx (i:=2) Znq.nd rfl (Or.inl rfl) (Z8 (pv 0) R.cl.cl R.take hr (ZJ Zt) (Za Zad Zb)))
   (Zh (ZK (Zax PySem.F.plainAttrs_list PySem.F.slot_list_append PySem.F.type_list_append ZaQ (Zl (pv 1) rfl)
    (Za (Ze0 F2 hr Zs (Za (pv 2) (Za (Zp F1 hr (ZJ Zt) (Za (pv 0) (Za (pv 1) Zb))) Zb))) Zb)))),?_⟩
  refine⟨_,rfl,r,dx,_,rfl,hR.ob,Zai _ _ (by decide +kernel) (by decide +kernel),G,r,ts,i,dx,lw,"string",rfl,hR,fun tk v ht hk hv=>?_,fun z=>k2 (str_none z (ZdD t) fun q hq=>?_) H hR.gh⟩;rotate_left
  ·unfold ZdD;split
   ·exact absurd rfl (hq _ _)
   ·rfl
  obtain⟨x,rfl⟩:=ZiT hk;obtain⟨ll,rfl,hll⟩:=hv;rw[Zay ht] at k1 k2;have st1:Step r G H G (Rm Ad H r dx lw (i+1)):=Step.move hR;have hR1:=hR.mv (j:=i+1) (Zaz ht);have hT1:=hT.step hR st1;obtain⟨srefs,hs1,hs2⟩:=hT1.ss.ex;refine⟨_,rfl,T.tl,Ad.CT,T.dt,_,_,rfl,hT1.ob,CT.cl,CT.no _ (by decide +kernel),Zio ..,.inl ⟨rfl,_,SqL.of hs1⟩,_,rfl,_,rfl,_,rfl,G,r,ts,i+1,dx,lw,T,t,rfl,hR1,hT1,fun vc c j G2 H2 hc hj st2 hR2 hca=>?_,fun z=>k2 (by show(Kgf1.maybe t.vars "if" (ts.drop (i+1))).map _=none;rw[z];rfl)⟩;intro p dp hp hdp hdpp;have hT2:=hT1.step hR1 st2;have hp1:upd H2 dp (.own p) p=none:=by rw[Zf hdpp.symm];exact hp
  refine⟨p,dp,_,_,rfl,Zd,rfl,?_⟩;rw[Z5];have rdp:r≠dp:=Zk hR2.ob hdp;have gdp:G2 dp=none:=hR2.gh.free hdp;have hR3:ZT Ad G2 (upd H2 dp (.own p)) r ts j dx lw:=hR2.loose gdp rdp _;have st3:Step r G2 H2 G2 (upd H2 dp (.own p)):=(Step.refl hR2.gh).loose hdp gdp _;have st4:Step r G2 H2 _ _:=st3.trans (Step.new hR3.gh hp1 (.ins Ad.CS dp (ZbL (.ref ll) vc)));have hR4:=hR3.new hp1 (.ins Ad.CS dp (ZbL (.ref ll) vc));have hT4:=hT2.step hR2 st4;have gg:Zc G (upd G2 p (.ins Ad.CS dp (ZbL (.ref ll) vc))):=(st2.gg hR1.gh).trans (st4.gg hR2.gh);have hGp:upd G2 p (.ins Ad.CS dp (ZbL (.ref ll) vc)) p=some (.ins Ad.CS dp (ZbL (.ref ll) vc)):=Zd;have hca4:=hca.same (st4.gg hR2.gh);generalize upd G2 p (.ins Ad.CS dp (ZbL (.ref ll) vc))=G4 at hR4 hT4 gg hGp hca4;generalize upd (upd H2 dp (.own p)) p (.ins Ad.CS dp (ZbL (.ref ll) vc))=H4 at hR4 hT4;obtain⟨srefs',hs1',hs2'⟩:=hT4.ss.ex;have hbd:srefs'.length<=30000:=by
   rw[Z2 hs2'];have h1:=hG.bd;have h2:=hR.le;have h3:=hR.big;unfold cnt at h1;omega
  refine⟨T.s,srefs',_,rfl,rfl,hs1',by omega,?_⟩;refine k1 { t with shows:=t.shows++[⟨x,c⟩] } j G4 _ ?_ (by omega) gg ⟨hR4.loose hT4.ss.no (Z6 hR4.ob hs1' (by intro z;cases z)) _,hT4.pushS hs1' hs2' ⟨p,dp,ll,vc,rfl,hGp,gg _ _ hll,hca4⟩,?_⟩
  ·show(Kgf1.maybe t.vars "if" (ts.drop (i+1))).map _=_;rw[hc];rfl
  ·have h1:=hG.bd;unfold cnt at h1 ⊢;show t.vars.length+t.whens.length+(t.shows++[(⟨x,c⟩:Kgf1.Show)]).length+t.wons.length+t.losts.length<=_;rw[List.length_append];show t.vars.length+t.whens.length+(t.shows.length+1)+_+_<=_;omega
def Znr(Ad:Ads)(C:Addr):Sp:=fun vs H Q E=>∃won:Bool,∃G r ts i dx lw T t,vs=[.ref r,.ref T.tl,.ref (if won then T.o else T.l)]/\Rg Ad G H r ts i dx lw T t /\
 (∀t' j G' H',Zcz t (if won then Tl.Zcc t else Tl.Zcd t) (ts.drop i)=some (t',ts.drop j)->i < j->Zc G G'->Rg Ad G' H' r ts j dx lw T t'->Q .non H') /\
 (Zcz t (if won then Tl.Zcc t else Tl.Zcd t) (ts.drop i)=none->∀H',Zc G H'->E (.ref C) none H')
theorem Zt4:Zo ["reader","tale","ends"] ["reader","tale","ends"] (Zi Zja):=⟨rfl,rfl,rfl,by decide +kernel,rfl,by decide +kernel,by decide +kernel⟩
theorem Zt5(D:Zj K mg "read_end" Zja f)(R:Rdr P w K mg base Ad C)
  (F1:Can P w K mg base (CX1 P w) 6 "read_condition" ["reader","tale"] (Zi4 Ad C)) :
  Can P w K mg base (CX1 P w) 7 "read_end" ["reader","tale","ends"] (Znr Ad C):=by
 refine D.Zap Zt4 (fun _ _ _ _ _ _ us hl=>match us,hl with|[_,_,_],_=>rfl) (fun vs H Q E h=>?_) (fun cdv A outer s H vs Q E hr h=>?_)
 ·obtain⟨won,G,r,ts,i,dx,lw,T,t,rfl,_⟩:=h;rfl
 ·obtain⟨won,G,r,ts,i,dx,lw,T,t,rfl,hG,k1,k2⟩:=h;have hR:=hG.R;have hT:=hG.T;have big:sizeLine=16777216:=by decide
  refine⟨_,Ze (ZK (Z8 (pv 0) R.cl.cl R.need hr (ZJ Zt) (Za Zad Zb)))
   (Zh (ZK (Zax PySem.F.plainAttrs_list PySem.F.slot_list_append PySem.F.type_list_append ZaQ (pv 2) (Za (Zp F1 hr (ZJ Zt) (Za (pv 0) (Za (pv 1) Zb))) Zb)))),?_⟩
  refine⟨_,rfl,r,dx,_,rfl,hR.ob,Zai _ _ (by decide +kernel) (by decide +kernel),G,r,ts,i,dx,lw,"if",rfl,hR,fun ha=>?_,fun ha=>k2 ?_ _ hR.gh⟩;rotate_left
  ·cases e:ts[i]? with
   |none=>rw[ZbM e];rfl
   |some tk =>
    rw[Zay e];show(if tk=Kgf1.kw "if" then _ else _)=_;rw[if_neg fun z=>ha (by rw[e,z])]
  have he:∀g,Zcz t g (ts.drop i)=(Kgf1.cond t.vars (ts.drop (i+1))).map fun c=>(g c.1,c.2):=fun g=>by
   rw[Zay ha];unfold Zcz;simp only[if_true]
  rw[he] at k1 k2;have st1:Step r G H G (Rm Ad H r dx lw (i+1)):=Step.move hR;have hR1:=hR.mv (j:=i+1) (Zaz ha);have hT1:=hT.step hR st1;have hbd:cnt t<=30000:=by
   have h1:=hG.bd;have h2:=hR.le;have h3:=hR.big;omega
  cases won with
  |true =>
   obtain⟨orefs,ho1,ho2⟩:=hT1.os.ex;refine⟨_,rfl,.inl ⟨rfl,_,SqL.of ho1⟩,_,rfl,_,rfl,G,r,ts,i+1,dx,lw,T,t,rfl,hR1,hT1,fun vc c j G2 H2 hc hj st2 hR2 hca=>?_,fun z=>k2 (by rw[z];rfl)⟩;have hT2:=hT1.step hR1 st2;obtain⟨orefs',ho1',ho2'⟩:=hT2.os.ex;refine⟨T.o,orefs',_,rfl,rfl,ho1',?_,?_⟩
   ·have:=Z2 ho2';unfold cnt at hbd;omega
   refine k1 (Tl.Zcc t c) j G2 _ (by rw[hc];rfl) (by omega) (st2.gg hR1.gh) ⟨hR2.loose hT2.os.no (Z6 hR2.ob ho1' (by intro z;cases z)) _,hT2.Zt1 ho1' ho2' hca,?_⟩;have h1:=hG.bd;unfold cnt at h1 ⊢;show t.vars.length+t.whens.length+t.shows.length+(t.wons++[c]).length+t.losts.length<=_;rw[List.length_append];show t.vars.length+t.whens.length+t.shows.length+(t.wons.length+1)+_<=_;omega
  |false =>
   obtain⟨orefs,ho1,ho2⟩:=hT1.ls.ex;refine⟨_,rfl,.inl ⟨rfl,_,SqL.of ho1⟩,_,rfl,_,rfl,G,r,ts,i+1,dx,lw,T,t,rfl,hR1,hT1,fun vc c j G2 H2 hc hj st2 hR2 hca=>?_,fun z=>k2 (by rw[z];rfl)⟩;have hT2:=hT1.step hR1 st2;obtain⟨orefs',ho1',ho2'⟩:=hT2.ls.ex;refine⟨T.l,orefs',_,rfl,rfl,ho1',?_,?_⟩
   ·have:=Z2 ho2';unfold cnt at hbd;omega
   refine k1 (Tl.Zcd t c) j G2 _ (by rw[hc];rfl) (by omega) (st2.gg hR1.gh) ⟨hR2.loose hT2.ls.no (Z6 hR2.ob ho1' (by intro z;cases z)) _,hT2.Zt2 ho1' ho2' hca,?_⟩;have h1:=hG.bd;unfold cnt at h1 ⊢;show t.vars.length+t.whens.length+t.shows.length+t.wons.length+(t.losts++[c]).length<=_;rw[List.length_append];show t.vars.length+t.whens.length+t.shows.length+t.wons.length+(t.losts.length+1)<=_;omega
end
theorem PE.of{X:Cx}{e:Expr}{t t':TE}(h:PE X e t)(m:∀σ H Q,t' σ H Q->t σ H Q):PE X e t':=fun pins s σ H Q I hw=>h pins s σ H Q I (m σ H Q hw)
def tDo(Ad:Ads)(C:Addr)(E:XK):TE:=fun σ H Q=>∃(G:Hp)(r:Addr)(ts:List Kgf1.Tok)(i:Nat)(dx lw:Addr)(T:Tl6)(t:Kgf1.Tale)(rest:St),σ=some (.ref r)::some (.ref T.tl)::rest/\ZT Ad G H r ts i dx lw/\Zao Ad G H T t /\
 (∀v c j G' H',Kgf1.maybe t.vars "do" (ts.drop i)=some (c,ts.drop j)->Kgf1.okChange c=true->i<=j->Step r G H G' H'->ZT Ad G' H' r ts j dx lw->Zbu G' v c->Q v H') /\
 ((∀c r',Kgf1.maybe t.vars "do" (ts.drop i)=some (c,r')->Kgf1.okChange c=false)->∀H',Zc G H'->E (.ref C) none H')
section
theorem Zgr:Zo ["reader","tale","typed","condition","change"] ["reader","tale"] (Zi Zi8):=⟨rfl,rfl,rfl,by decide +kernel,rfl,by decide +kernel,by decide +kernel⟩
theorem Zt6(D:Zj K mg "read_when" Zi8 f)(R:Rdr P w K mg base Ad C)(CT:Zv K Ad.CT Za8)
  (F0:Can P w K mg base (CX1 P w) 3 "check_typed" ["typed"] (Znn C))
  (F1:Can P w K mg base (CX1 P w) 7 "read_if" ["reader","tale"] (Zi6 Ad C)) (F2:Can P w K mg base (CX1 P w) 6 "read_change" ["reader","tale"] (Znk Ad C))
  (F3:ZaS P w K mg base CX0 1 "When" Ad.CW ["self","typed","condition","change","told"] (ZmN Ad.CW)) :
  Can P w K mg base (CX1 P w) 8 "read_when" ["reader","tale"] (Zc2 Ad C Zc3):=by
 refine D.Zap Zgr (fun _ _ _ _ _ _ us hl=>match us,hl with|[_,_],_=>rfl) (fun vs H Q E h=>?_) (fun cdv A outer s H vs Q E hr h=>?_)
 ·obtain⟨G,r,ts,i,dx,lw,T,t,rfl,_⟩:=h;rfl
 ·obtain⟨G,r,ts,i,dx,lw,T,t,rfl,hG,k1,k2⟩:=h;have hR:=hG.R;have hT:=hG.T;have big:sizeLine=16777216:=by decide
  refine⟨_,Ze (Zx (i:=2) Zgr.nd rfl (Or.inl rfl) (Z8 (pv 0) R.cl.cl R.take hr (ZJ Zt) (Za Zad Zb)))
   (Ze (ZK (Zp F0 hr (ZJ Zt) (Za (pv 2) Zb)))
   (Ze (Zx (i:=3) Zgr.nd rfl (Or.inl rfl) (Zp F1 hr (ZJ Zt) (Za (pv 0) (Za (pv 1) Zb))))
   (Ze (Zx (i:=4) Zgr.nd rfl (Or.inl rfl) (PE.of (t':=tDo Ad C E) (ZdS (Zam (Z8 (pv 0) R.cl.cl R.passes hr Zs (Za Zad Zb))) (Zp F2 hr (ZJ Zt) (Za (pv 0) (Za (pv 1) Zb))) (ZQ Zb)) ?mono))
   (Ze (ZK (Z8 (pv 0) R.cl.cl R.need hr (ZJ Zt) (Za Zad Zb)))
   (Zh (ZK (Zax PySem.F.plainAttrs_list PySem.F.slot_list_append PySem.F.type_list_append ZaQ (Zl (pv 1) rfl)
    (Za (Ze0 F3 hr Zs (Za (pv 2) (Za (pv 3) (Za (pv 4) (Za (Z8 (pv 0) R.cl.cl R.take hr (ZJ Zt) (Za Zad Zb)) Zb))))) Zb)))))))),?_⟩
  case mono =>
   rintro σ H Q ⟨G,r,ts,i,dx,lw,T,t,rest,rfl,hR,hT,k1,k2⟩
   refine⟨_,rfl,r,dx,_,rfl,hR.ob,Zai _ _ (by decide +kernel) (by decide +kernel),G,r,ts,i,dx,lw,"do",rfl,hR,fun ha=>?_,fun ha=>?_⟩
   ·rw[Znl ha] at k1 k2
    have stm:Step r G H G (Rm Ad H r dx lw (i+1)):=Step.move hR
    have hRm:=hR.mv (j:=i+1) (Zaz ha)
    have hTm:=hT.step hR stm
    exact⟨_,rfl,Zar ⟨_,rfl,_,rfl,G,r,ts,i+1,dx,lw,T,t,rfl,hRm,hTm,fun v c j G' H' e hok hj st hRj hc=>k1 v c j G' H' e hok (by omega) (stm.trans st) hRj hc,k2⟩⟩
   ·rw[Znm ha] at k1 k2
    exact⟨_,rfl,ZW ⟨by show 0<=sizeLine;decide,fun lp hlp=>k1 _ [] i _ _ rfl rfl (Nat.le_refl _) (Step.new hR.gh hlp _) (hR.new hlp _) ⟨lp,[],rfl,Zd,.nil⟩⟩⟩
  refine⟨_,rfl,r,dx,_,rfl,hR.ob,Zai _ _ (by decide +kernel) (by decide +kernel),G,r,ts,i,dx,lw,"string",rfl,hR,fun tk v ht hk hv=>?_,fun z=>k2 (str_none z (Zc3 t) fun q hq=>?_) H hR.gh⟩;rotate_left
  ·unfold Zc3;split
   ·exact absurd rfl (hq _ _)
   ·rfl
  obtain⟨wd,rfl⟩:=ZiT hk;obtain⟨lt,rfl,hlt⟩:=hv;rw[Zay ht] at k1 k2;have eW:Zc3 t (.str wd::ts.drop (i+1))=if Kgf1.okWords wd=true then(Kgf1.maybe t.vars "if" (ts.drop (i+1))).bind fun c=>(Kgf1.maybe t.vars "do" c.2).bind fun d=>if Kgf1.okChange d.1=true then Zcj t wd c.1 d.1 d.2 else none else none:=rfl;rw[eW] at k1 k2;have st1:Step r G H G (Rm Ad H r dx lw (i+1)):=Step.move hR;have hR1:=hR.mv (j:=i+1) (Zaz ht);have hT1:=hT.step hR st1;have hll:wd.length<=255:=hR.sh wd (List.mem_of_getElem? ht);have hll':wd.length<=30000:=by omega
  refine⟨_,rfl,G,lt,wd,rfl,hR1.gh,hlt,hll',fun hw p0 o0 hp0=>?_,fun hw=>k2 (if_neg (by rw[hw];decide))⟩;rw[if_pos hw] at k1 k2;have st2:Step r G _ G (upd (Rm Ad H r dx lw (i+1)) p0 o0):=(Step.refl hR1.gh).loose hp0 (hR1.gh.free hp0) o0;have hR2:=hR1.loose (hR1.gh.free hp0) (Zk hR1.ob hp0) o0;have hT2:=hT1.step hR1 st2;generalize upd (Rm Ad H r dx lw (i+1)) p0 o0=H2 at st2 hR2 hT2;refine⟨_,rfl,_,rfl,G,r,ts,i+1,dx,lw,T,t,rfl,hR2,hT2,fun vc c j G3 H3 hc hj st3 hR3 hca=>?_,fun z=>k2 (by rw[z];rfl)⟩;rw[hc] at k1 k2;have k1:∀(t':Kgf1.Tale)(j':Nat)(G' H':Hp),((Kgf1.maybe t.vars "do" (ts.drop j)).bind fun d=>if Kgf1.okChange d.1=true then Zcj t wd c d.1 d.2 else none)=some (t',ts.drop j')->i < j'->Zc G G'->Rg Ad G' H' r ts j' dx lw T t'->Q .non H':=k1;have k2:((Kgf1.maybe t.vars "do" (ts.drop j)).bind fun d=>if Kgf1.okChange d.1=true then Zcj t wd c d.1 d.2 else none)=none->∀H',Zc G H'->E (.ref C) none H':=k2;have hT3:=hT2.step hR2 st3;have gg3:Zc G G3:=st3.gg hR2.gh;refine⟨G3,r,ts,j,dx,lw,T,t,_,rfl,hR3,hT3,fun vd d j2 G4 H4 hd hok hj2 st4 hR4 hda=>?_,fun z H' sH=>k2 ?_ H' (gg3.trans sH)⟩;rotate_left
  ·cases e:Kgf1.maybe t.vars "do" (ts.drop j) with
   |none=>rfl
   |some d =>
    show(if Kgf1.okChange d.1=true then _ else _)=_;rw[if_neg (by rw[z d.1 d.2 e];decide)]
  have eS:((Kgf1.maybe t.vars "do" (ts.drop j)).bind fun d=>if Kgf1.okChange d.1=true then Zcj t wd c d.1 d.2 else none)=Zcj t wd c d (ts.drop j2):=by
   rw[hd];show(if Kgf1.okChange d=true then _ else _)=_;rw[if_pos hok]
  rw[eS] at k1 k2;have hT4:=hT3.step hR3 st4;have gg4:Zc G3 G4:=st4.gg hR3.gh;refine⟨_,rfl,r,dx,_,rfl,hR4.ob,Zai _ _ (by decide +kernel) (by decide +kernel),G4,r,ts,j2,dx,lw,"say",rfl,hR4,fun ha=>?_,fun ha=>k2 ?_ _ ((gg3.trans gg4).trans hR4.gh)⟩;rotate_left
  ·cases e:ts[j2]? with
   |none=>rw[ZbM e];rfl
   |some tk =>
    rw[Zay e];unfold Zcj;split
    ·rename_i y x q e2;have e3:=(List.cons.inj e2).1;rw[if_neg fun z=>ha (by rw[e,e3,z];rfl)]
    ·rfl
  rw[Zay ha] at k1 k2;have st5:Step r G4 H4 G4 (Rm Ad H4 r dx lw (j2+1)):=Step.move hR4;have hR5:=hR4.mv (j:=j2+1) (Zaz ha);have hT5:=hT4.step hR4 st5;generalize Rm Ad H4 r dx lw (j2+1)=H5 at st5 hR5 hT5;obtain⟨wrefs,hw1,hw2⟩:=hT5.ws.ex;refine⟨_,rfl,T.tl,Ad.CT,T.dt,_,_,rfl,hT5.ob,CT.cl,CT.no _ (by decide +kernel),Zf7 ..,.inl ⟨rfl,_,SqL.of hw1⟩,_,rfl,_,rfl,_,rfl,_,rfl,r,dx,_,rfl,hR5.ob,Zai _ _ (by decide +kernel) (by decide +kernel),G4,r,ts,j2+1,dx,lw,"string",rfl,hR5,fun tk2 v2 ht2 hk2 hv2=>?_,fun z=>k2 (str_none z (fun q=>Zcj t wd c d (.name (Kgf1.ascii "say")::q)) fun q hq=>?_) _ ((gg3.trans gg4).trans hR5.gh)⟩;rotate_left
  ·unfold Zcj;split
   ·rename_i e2;exact absurd (List.cons.inj e2).2 (hq _ _)
   ·rfl
  obtain⟨x,rfl⟩:=ZiT hk2;obtain⟨ll,rfl,hll2⟩:=hv2;rw[Zay ht2] at k1;have k1:∀(t':Kgf1.Tale)(j':Nat)(G' H':Hp),(if Kgf1.ascii "say"=Kgf1.ascii "say" then some (({ t with whens:=t.whens++[⟨wd,c,d,x⟩] }:Kgf1.Tale),ts.drop (j2+2)) else none)=some (t',ts.drop j')->i < j'->Zc G G'->Rg Ad G' H' r ts j' dx lw T t'->Q .non H':=k1;rw[if_pos rfl] at k1;have st6:Step r G4 H5 G4 (Rm Ad H5 r dx lw (j2+1+1)):=Step.move hR5;have hR6:=hR5.mv (j:=j2+1+1) (Zaz ht2);have hT6:=hT5.step hR5 st6;intro p dp hp hdp hdpp;generalize Rm Ad H5 r dx lw (j2+1+1)=H6 at st6 hR6 hT6 hp hdp;have hp1:upd H6 dp (.own p) p=none:=by rw[Zf hdpp.symm];exact hp
  refine⟨p,dp,_,_,_,_,rfl,Zd,rfl,?_⟩;rw[Z5];have gdp:G4 dp=none:=hR6.gh.free hdp;have hR7:ZT Ad G4 (upd H6 dp (.own p)) r ts (j2+1+1) dx lw:=hR6.loose gdp (Zk hR6.ob hdp) _;have st7:Step r G4 H6 G4 (upd H6 dp (.own p)):=(Step.refl hR6.gh).loose hdp gdp _;have st8:Step r G4 H6 _ _:=st7.trans (Step.new hR7.gh hp1 (.ins Ad.CW dp (Zbm (.ref lt) vc vd (.ref ll))));have hR8:=hR7.new hp1 (.ins Ad.CW dp (Zbm (.ref lt) vc vd (.ref ll)));have hT8:=hT6.step hR6 st8;have g48:Zc G4 (upd G4 p (.ins Ad.CW dp (Zbm (.ref lt) vc vd (.ref ll)))):=st8.gg hR6.gh;have hGp:upd G4 p (.ins Ad.CW dp (Zbm (.ref lt) vc vd (.ref ll))) p=some (.ins Ad.CW dp (Zbm (.ref lt) vc vd (.ref ll))):=Zd;generalize upd G4 p (.ins Ad.CW dp (Zbm (.ref lt) vc vd (.ref ll)))=G8 at hR8 hT8 g48 hGp;generalize upd (upd H6 dp (.own p)) p (.ins Ad.CW dp (Zbm (.ref lt) vc vd (.ref ll)))=H8 at hR8 hT8;obtain⟨wrefs',hw1',hw2'⟩:=hT8.ws.ex;have hbd:wrefs'.length<=30000:=by
   rw[Z2 hw2'];have h1:=hG.bd;have h2:=hR.le;have h3:=hR.big;unfold cnt at h1;omega
  refine⟨T.w,wrefs',_,rfl,rfl,hw1',by omega,?_⟩;have gA:Zc G G8:=(gg3.trans gg4).trans g48;refine k1 _ (j2+2) G8 _ rfl (by omega) gA ⟨hR8.loose hT8.ws.no (Z6 hR8.ob hw1' (by intro z;cases z)) _,hT8.Zt0 hw1' hw2' ⟨p,dp,lt,ll,vc,vd,rfl,hGp,gA _ _ hlt,hca.same (gg4.trans g48),hda.same g48,g48 _ _ hll2⟩,?_⟩;have h1:=hG.bd;unfold cnt at h1 ⊢;show t.vars.length+(t.whens++[(⟨wd,c,d,x⟩:Kgf1.When)]).length+t.shows.length+t.wons.length+t.losts.length<=_;rw[List.length_append];show t.vars.length+(t.whens.length+1)+t.shows.length+_+_<=_;omega
end
abbrev Zjb:Stmt:=top 64
abbrev Zjc:Stmt:=top 65
abbrev Zjd:Stmt:=top 66
def Zbv(t:Kgf1.Tale)(ts:List Kgf1.Tok)(i:Nat):Option (Kgf1.Tale×List Kgf1.Tok) :=
 if ts[i]?=some (Kgf1.kw "when") then Zc3 t (ts.drop (i+1)) else if ts[i]?=some (Kgf1.kw "show") then ZdD t (ts.drop (i+1)) else if ts[i]?=some (Kgf1.kw "won") then Zcz t (Tl.Zcc t) (ts.drop (i+1)) else if ts[i]?=some (Kgf1.kw "lost") then Zcz t (Tl.Zcd t) (ts.drop (i+1)) else none
theorem Zt7(t:Kgf1.Tale)(ts:List Kgf1.Tok)(i:Nat):Tl.Zcs t (ts.drop i)=(Zbv t ts i).bind fun x=>Tl.Zat x.1 x.2:=by
 unfold Zbv;cases e:ts[i]? with
 |none =>
  rw[ZbM e];simp only[reduceCtorEq,if_false];rfl
 |some tk =>
  rw[Zay e];cases tk with
  |name k =>
   have inj:∀s:String,(some (Kgf1.Tok.name k)=some (Kgf1.kw s))↔k=Kgf1.ascii s:=fun s=>⟨fun z=>by have:=Option.some.inj z;exact Kgf1.Tok.name.inj this,fun z=>by rw[z];rfl⟩
   show(if k=Kgf1.ascii "when" then Tl.ZcR t _ else if k=Kgf1.ascii "show" then Tl.ZcS t _ else if k=Kgf1.ascii "won" then Tl.ZbE t (Tl.Zcc t) _ else if k=Kgf1.ascii "lost" then Tl.ZbE t (Tl.Zcd t) _ else none)=_;simp only[inj];by_cases h1:k=Kgf1.ascii "when"
   ·rw[if_pos h1,if_pos h1];exact ZtY ..
   ·rw[if_neg h1,if_neg h1];by_cases h2:k=Kgf1.ascii "show"
    ·rw[if_pos h2,if_pos h2];exact ZtZ ..
    ·rw[if_neg h2,if_neg h2];by_cases h3:k=Kgf1.ascii "won"
     ·rw[if_pos h3,if_pos h3];exact Znp ..
     ·rw[if_neg h3,if_neg h3];by_cases h4:k=Kgf1.ascii "lost"
      ·rw[if_pos h4,if_pos h4];exact Znp ..
      ·rw[if_neg h4,if_neg h4];rfl
  |eq=>simp[Kgf1.kw];rfl
  |semi=>simp[Kgf1.kw];rfl
  |str b=>simp[Kgf1.kw];rfl
section
theorem Zt8:Zo ["reader","tale"] ["reader","tale"] (Zi Zjb):=⟨rfl,rfl,rfl,by decide +kernel,rfl,by decide +kernel,by decide +kernel⟩
theorem Zt9(D:Zj K mg "read_rule" Zjb f)(R:Rdr P w K mg base Ad C)(CT:Zv K Ad.CT Za8)
  (F1:Can P w K mg base (CX1 P w) 8 "read_when" ["reader","tale"] (Zc2 Ad C Zc3)) (F2:Can P w K mg base (CX1 P w) 8 "read_show" ["reader","tale"] (Zc2 Ad C ZdD)) (F3:Can P w K mg base (CX1 P w) 7 "read_end" ["reader","tale","ends"] (Znr Ad C)) :
  Can P w K mg base (CX1 P w) 9 "read_rule" ["reader","tale"] (Zc2 Ad C Tl.Zcs):=by
 refine D.Zap Zt8 (fun _ _ _ _ _ _ us hl=>match us,hl with|[_,_],_=>rfl) (fun vs H Q E h=>?_) (fun cdv A outer s H vs Q E hr h=>?_)
 ·obtain⟨G,r,ts,i,dx,lw,T,t,rfl,_⟩:=h;rfl
 ·obtain⟨G,r,ts,i,dx,lw,T,t,rfl,hG,k1,k2⟩:=h;have hR:=hG.R;have hT:=hG.T;rw[Zt7] at k1 k2;refine⟨_,Ze (Zy (Zam (Z8 (pv 0) R.cl.cl R.passes hr Zs (Za Zad Zb))) (Zh (ZK (Zp F1 hr (ZJ Zt) (Za (pv 0) (Za (pv 1) Zb)))))
    (Zh (Zy (Zam (Z8 (pv 0) R.cl.cl R.passes hr Zs (Za Zad Zb))) (Zh (ZK (Zp F2 hr (ZJ Zt) (Za (pv 0) (Za (pv 1) Zb)))))
    (Zh (Zy (Zam (Z8 (pv 0) R.cl.cl R.passes hr Zs (Za Zad Zb))) (Zh (ZK (Zp F3 hr (ZJ Zt) (Za (pv 0) (Za (pv 1) (Za (Zl (pv 1) rfl) Zb))))))
    (Ze (ZK (Z8 (pv 0) R.cl.cl R.need hr (ZJ Zt) (Za Zad Zb))) (Zh (ZK (Zp F3 hr (ZJ Zt) (Za (pv 0) (Za (pv 1) (Za (Zl (pv 1) rfl) Zb))))))))))))
   (Zh (ZK (Z8 (pv 0) R.cl.cl R.take hr (ZJ Zt) (Za Zad Zb)))),?_⟩
  have fin:∀(t':Kgf1.Tale)(j:Nat)(G' H':Hp),Zbv t ts i=some (t',ts.drop j)->i < j->Zc G G'->Rg Ad G' H' r ts j dx lw T t' ->
    ZgX (ZeH Ad.CR "take" (ZiK Ad C) [] E (ZH 0) (ZU (tC (.str ";")) Zaf)) { nx:=fun _ H'=>Q .non H',rt:=Q } [some (.ref r),some (.ref T.tl)] H':=by
   intro t' j G' H' e hj gg hg;have hR':=hg.R;refine⟨_,rfl,r,dx,_,rfl,hR'.ob,Zai _ _ (by decide +kernel) (by decide +kernel),G',r,ts,j,dx,lw,";",rfl,hR',fun tk v ht hk hv=>?_,fun z=>k2 ?_ _ (gg.trans hR'.gh)⟩
   ·cases Zm5 hk;have stm:Step r G' H' G' (Rm Ad H' r dx lw (j+1)):=Step.move hR';refine k1 t' (j+1) G' _ ?_ (by omega) gg ⟨hR'.mv (Zaz ht),hg.T.step hR' stm,by have:=hg.bd;omega⟩;rw[e];show Tl.Zat t' (ts.drop j)=_;rw[Zay ht];rfl
   ·rw[e];exact Zm6 z
  have no:Zbv t ts i=none->∀H',Zc G H'->E (.ref C) none H':=fun z=>k2 (by rw[z];rfl);have st1:Step r G H G (Rm Ad H r dx lw (i+1)):=Step.move hR;have mv:i < ts.length->Rg Ad G (Rm Ad H r dx lw (i+1)) r ts (i+1) dx lw T t:=fun h=>⟨hR.mv h,hT.step hR st1,by have:=hG.bd;omega⟩
  refine⟨_,rfl,r,dx,_,rfl,hR.ob,Zai _ _ (by decide +kernel) (by decide +kernel),G,r,ts,i,dx,lw,"when",rfl,hR,fun ha=>?_,fun h1=>?_⟩
  ·have eU:Zbv t ts i=Zc3 t (ts.drop (i+1)):=by unfold Zbv;rw[if_pos ha]
   refine⟨_,rfl,Zar ⟨_,rfl,_,rfl,G,r,ts,i+1,dx,lw,T,t,rfl,mv (Zaz ha),fun t' j G' H' e hj gg hg=>fin t' j G' H' (eU.trans e) (by omega) gg hg,fun z=>no (eU.trans z)⟩⟩
  refine⟨_,rfl,ZW ⟨_,rfl,r,dx,_,rfl,hR.ob,Zai _ _ (by decide +kernel) (by decide +kernel),G,r,ts,i,dx,lw,"show",rfl,hR,fun ha=>?_,fun h2=>?_⟩⟩
  ·have eU:Zbv t ts i=ZdD t (ts.drop (i+1)):=by unfold Zbv;rw[if_neg h1,if_pos ha]
   refine⟨_,rfl,Zar ⟨_,rfl,_,rfl,G,r,ts,i+1,dx,lw,T,t,rfl,mv (Zaz ha),fun t' j G' H' e hj gg hg=>fin t' j G' H' (eU.trans e) (by omega) gg hg,fun z=>no (eU.trans z)⟩⟩
  refine⟨_,rfl,ZW ⟨_,rfl,r,dx,_,rfl,hR.ob,Zai _ _ (by decide +kernel) (by decide +kernel),G,r,ts,i,dx,lw,"won",rfl,hR,fun ha=>?_,fun h3=>?_⟩⟩
  ·have eU:Zbv t ts i=Zcz t (Tl.Zcc t) (ts.drop (i+1)):=by unfold Zbv;rw[if_neg h1,if_neg h2,if_pos ha]
   have hg1:=mv (Zaz ha);refine⟨_,rfl,Zar ⟨_,rfl,_,rfl,_,rfl,T.tl,Ad.CT,T.dt,_,_,rfl,hg1.T.ob,CT.cl,CT.no _ (by decide +kernel),Zf8 ..,true,G,r,ts,i+1,dx,lw,T,t,rfl,hg1,fun t' j G' H' e hj gg hg=>fin t' j G' H' (eU.trans e) (by omega) gg hg,fun z=>no (eU.trans z)⟩⟩
  refine⟨_,rfl,ZW ⟨_,rfl,r,dx,_,rfl,hR.ob,Zai _ _ (by decide +kernel) (by decide +kernel),G,r,ts,i,dx,lw,"lost",rfl,hR,fun ha=>?_,fun h4=>no (by unfold Zbv;rw[if_neg h1,if_neg h2,if_neg h3,if_neg h4]) _ hR.gh⟩⟩
  ·have eU:Zbv t ts i=Zcz t (Tl.Zcd t) (ts.drop (i+1)):=by unfold Zbv;rw[if_neg h1,if_neg h2,if_neg h3,if_pos ha]
   have hg1:=mv (Zaz ha);refine⟨_,rfl,_,rfl,_,rfl,T.tl,Ad.CT,T.dt,_,_,rfl,hg1.T.ob,CT.cl,CT.no _ (by decide +kernel),Zf9 ..,false,G,r,ts,i+1,dx,lw,T,t,rfl,hg1,fun t' j G' H' e hj gg hg=>fin t' j G' H' (eU.trans e) (by omega) gg hg,fun z=>no (eU.trans z)⟩
def Zns(Ad:Ads)(C:Addr):Sp:=fun vs H Q E=>∃G T t,vs=[.ref T.tl]/\Zc G H/\Zao Ad G H T t/\(Kgf1.okTale t=true->Q .non H)/\(Kgf1.okTale t=false->E (.ref C) none H)
theorem Zua:Zo ["tale"] ["tale"] (Zi Zjc):=⟨rfl,rfl,rfl,by decide +kernel,rfl,by decide +kernel,by decide +kernel⟩
theorem Zck{t:Kgf1.Tale}:Kgf1.okTale t=true↔((1<=t.vars.length/\t.vars.length<=24)/\(1<=t.whens.length/\t.whens.length<=128)/\t.shows.length<=64/\(1<=t.wons.length/\t.wons.length<=16)/\t.losts.length<=16):=by
 unfold Kgf1.okTale;simp only[Bool.and_eq_true,decide_eq_true_eq];constructor
 ·rintro⟨⟨⟨⟨⟨⟨⟨a,b⟩,c⟩,d⟩,e⟩,f⟩,g⟩,h⟩;exact⟨⟨a,b⟩,⟨c,d⟩,e,⟨f,g⟩,h⟩
 ·rintro⟨⟨a,b⟩,⟨c,d⟩,e,⟨f,g⟩,h⟩;exact⟨⟨⟨⟨⟨⟨⟨a,b⟩,c⟩,d⟩,e⟩,f⟩,g⟩,h⟩
theorem Zub(D:Zj K mg "check_tale" Zjc f)(CT:Zv K Ad.CT Za8)(hlen:mg "len"=none)(m1:GI mg "MOST_VARS" 24)(m2:GI mg "MOST_WHENS" 128)(m3:GI mg "MOST_SHOWS" 64)(m4:GI mg "MOST_WONS" 16)(m5:GI mg "MOST_LOSTS" 16)
  (F0:Can P w K mg base (CX1 P w) 1 "check_count" ["count","least","most"] (Zgj C)) :
  Can P w K mg base (CX1 P w) 2 "check_tale" ["tale"] (Zns Ad C):=by
 refine D.Zap Zua (fun _ _ _ _ _ _ us hl=>match us,hl with|[_],_=>rfl) (fun vs H Q E h=>?_) (fun cdv A outer s H vs Q E hr h=>?_)
 ·obtain⟨G,T,t,rfl,_⟩:=h;rfl
 ·obtain⟨G,T,t,rfl,gh,hT,k1,k2⟩:=h;refine⟨_,Ze (ZK (Zp F0 hr (ZJ Zt) (Za (ZN Z0 (by rfl) hlen PySem.boot_len (Za (Zl (pv 0) rfl) Zb)) (Za Zr (Za (Zu m1) Zb)))))
   (Ze (ZK (Zp F0 hr (ZJ Zt) (Za (ZN Z0 (by rfl) hlen PySem.boot_len (Za (Zl (pv 0) rfl) Zb)) (Za Zr (Za (Zu m2) Zb)))))
   (Ze (ZK (Zp F0 hr (ZJ Zt) (Za (ZN Z0 (by rfl) hlen PySem.boot_len (Za (Zl (pv 0) rfl) Zb)) (Za Zr (Za (Zu m3) Zb)))))
   (Ze (ZK (Zp F0 hr (ZJ Zt) (Za (ZN Z0 (by rfl) hlen PySem.boot_len (Za (Zl (pv 0) rfl) Zb)) (Za Zr (Za (Zu m4) Zb)))))
   (Zh (ZK (Zp F0 hr (ZJ Zt) (Za (ZN Z0 (by rfl) hlen PySem.boot_len (Za (Zl (pv 0) rfl) Zb)) (Za Zr (Za (Zu m5) Zb))))))))),?_⟩
  obtain⟨r1,a1,p1⟩:=hT.cs.ex;obtain⟨r2,a2,p2⟩:=hT.ws.ex;obtain⟨r3,a3,p3⟩:=hT.ss.ex;obtain⟨r4,a4,p4⟩:=hT.os.ex;obtain⟨r5,a5,p5⟩:=hT.ls.ex;have l1:=Z2 p1;have l2:=Z2 p2;have l3:=Z2 p3;have l4:=Z2 p4;have l5:=Z2 p5;have no:∀{p:Prop},¬p->(Kgf1.okTale t=true->p)->E (.ref C) none H:=fun hp h=>k2 (Bool.eq_false_iff.mpr fun z=>hp (h z));refine⟨_,rfl,T.tl,Ad.CT,T.dt,_,_,rfl,hT.ob,CT.cl,CT.no _ (by decide +kernel),ZcZ ..,T.c,_,rfl,.inl (SqL.of a1),_,1,24,rfl,fun h1 h2=>?_,fun h=>no h fun z=>?_⟩;rotate_left
  ·have:=(Zck.mp z).1;exact⟨by omega,by omega⟩
  refine⟨_,rfl,T.tl,Ad.CT,T.dt,_,_,rfl,hT.ob,CT.cl,CT.no _ (by decide +kernel),Zf7 ..,T.w,_,rfl,.inl (SqL.of a2),_,1,128,rfl,fun h3 h4=>?_,fun h=>no h fun z=>?_⟩;rotate_left
  ·have:=(Zck.mp z).2.1;exact⟨by omega,by omega⟩
  refine⟨_,rfl,T.tl,Ad.CT,T.dt,_,_,rfl,hT.ob,CT.cl,CT.no _ (by decide +kernel),Zio ..,T.s,_,rfl,.inl (SqL.of a3),_,0,64,rfl,fun h5 h6=>?_,fun h=>no h fun z=>?_⟩;rotate_left
  ·have:=(Zck.mp z).2.2.1;exact⟨by omega,by omega⟩
  refine⟨_,rfl,T.tl,Ad.CT,T.dt,_,_,rfl,hT.ob,CT.cl,CT.no _ (by decide +kernel),Zf8 ..,T.o,_,rfl,.inl (SqL.of a4),_,1,16,rfl,fun h7 h8=>?_,fun h=>no h fun z=>?_⟩;rotate_left
  ·have:=(Zck.mp z).2.2.2.1;exact⟨by omega,by omega⟩
  refine⟨_,rfl,T.tl,Ad.CT,T.dt,_,_,rfl,hT.ob,CT.cl,CT.no _ (by decide +kernel),Zf9 ..,T.l,_,rfl,.inl (SqL.of a5),_,0,16,rfl,fun h9 h10=>k1 (Zck.mpr ⟨⟨by omega,by omega⟩,⟨by omega,by omega⟩,by omega,⟨by omega,by omega⟩,by omega⟩),fun h=>no h fun z=>?_⟩;have:=(Zck.mp z).2.2.2.2;exact⟨by omega,by omega⟩
end
structure XT(K:PySem.W.Frag)(mg:Str->Option Value)(x:Str)(C:Addr):Prop where
 mg:mg x=some (.ref C)
 ex:Exc K C bmV "ValueError.__new__"
theorem Znt{X:Cx}{C:Addr}{E:XK}{x msg:Str}{np cpos pos cp:Pos}{j:Nat}(T:Throws X E)(N:XT X.K X.mg x C)(hg:Gl X x:=by rfl)(hdb:(x==("__debug__":Str))=false:=by decide)(he:starEach [.Constant (.str msg) j cp] X.env=(false,eval (.Constant (.str msg) j cp) X.env)::starEach [] X.env:=by rfl)(hpl:(backTo cpos (starEach [] X.env)).any (·.1)=false:=by rfl) :
  PS X (.Raise (some (.Call (.Name x np) [.Constant (.str msg) j cp] [] cpos)) none pos) (Zmi C E):=fun pins s σ H D I h =>
 Zma T N.ex PySem.F.excBase_ValueError hg N.mg (Za Zad Zb he) hdb he hpl pins s σ H D I ⟨by show 1<=sizeLine;decide,h⟩
theorem Zgs{α:Type}{a b:α}{ts r:List Kgf1.Tok}(h:Tl.Zat a ts=some (b,r)):b=a:=by
 unfold Tl.Zat at h;split at h
 ·cases h;rfl
 ·cases h
theorem Zuc{t t':Kgf1.Tale}{ts r:List Kgf1.Tok}(h:Tl.ZbG t ts=some (t',r)):Tl.ZaJ t'=Tl.ZaJ t:=by
 unfold Tl.ZbG at h;split at h
 ·split at h
  ·rw[Zgs h];rfl
  ·cases h
 ·cases h
theorem Znu{t t':Kgf1.Tale}{g:Kgf1.Cond->Kgf1.Tale}{ts r:List Kgf1.Tok}(hg:∀c,Tl.ZaJ (g c)=false)(h:Tl.ZbE t g ts=some (t',r)):Tl.ZaJ t'=false:=by
 unfold Tl.ZbE at h;split at h
 ·split at h
  ·obtain⟨c,_,h⟩:=Option.bind_eq_some_iff.mp h;rw[Zgs h];exact hg _
  ·cases h
 ·cases h
theorem Zud{t t':Kgf1.Tale}{ts r:List Kgf1.Tok}(h:Tl.Zcs t ts=some (t',r)):Tl.ZaJ t'=false:=by
 unfold Tl.Zcs at h;split at h
 ·split at h
  ·unfold Tl.ZcR at h;split at h
   ·split at h
    ·obtain⟨c,_,h⟩:=Option.bind_eq_some_iff.mp h;obtain⟨d,_,h⟩:=Option.bind_eq_some_iff.mp h;split at h
     ·unfold Tl.ZcQ at h;split at h
      ·split at h
       ·rw[Zgs h];simp[Tl.ZaJ]
       ·cases h
      ·cases h
     ·cases h
    ·cases h
   ·cases h
  ·split at h
   ·unfold Tl.ZcS at h;split at h
    ·obtain⟨c,_,h⟩:=Option.bind_eq_some_iff.mp h;rw[Zgs h];simp[Tl.ZaJ]
    ·cases h
   ·split at h
    ·exact Znu (fun c=>by simp[Tl.ZaJ,Tl.Zcc]) h
    ·split at h
     ·exact Znu (fun c=>by simp[Tl.ZaJ,Tl.Zcd]) h
     ·cases h
 ·cases h
structure ZaN(Ad:Ads)(F:Hp)(tl:Addr)(t:Kgf1.Tale):Prop where
 at_:Zc1 Ad F tl t
 ch:∃dx n c w s o l crefs,F tl=some (.ins Ad.CT dx (ZaZ n c w s o l))/\F c=some (.lst crefs)/\Paired (Zeo F) crefs t.vars
theorem ZaN.same{Ad:Ads}{F F':Hp}{tl:Addr}{t:Kgf1.Tale}(q:Zc F F')(h:ZaN Ad F tl t):ZaN Ad F' tl t:=by
 obtain⟨dx,n,c,w,s,o,l,crefs,h1,h2,h3⟩:=h.ch;exact⟨h.at_.same q,dx,n,c,w,s,o,l,crefs,q _ _ h1,q _ _ h2,Paired.ZP h3 fun _ _ z=>z.same q⟩
theorem Zao.at_{Ad:Ads}{G H:Hp}{T:Tl6}{t:Kgf1.Tale}(h:Zao Ad G H T t)(g:Zc G H):ZaN Ad H T.tl t:=by
 obtain⟨r1,a1,p1⟩:=h.cs.ex;obtain⟨r2,a2,p2⟩:=h.ws.ex;obtain⟨r3,a3,p3⟩:=h.ss.ex;obtain⟨r4,a4,p4⟩:=h.os.ex;obtain⟨r5,a5,p5⟩:=h.ls.ex;exact⟨⟨T.dt,T.n,T.c,T.w,T.s,T.o,T.l,r1,r2,r3,r4,r5,h.ob,a1,Z2 p1,a2,Paired.ZP p2 fun _ _ z=>z.same g,a3,Paired.ZP p3 fun _ _ z=>z.same g,a4,Paired.ZP p4 fun _ _ z=>z.same g,a5,Paired.ZP p5 fun _ _ z=>z.same g⟩,
  T.dt,T.n,T.c,T.w,T.s,T.o,T.l,r1,h.ob,a1,Paired.ZP p1 fun _ _ z=>z.same g⟩
section
def Ze7(K:PySem.W.Frag)(Ad:Ads)(C CL:Addr):Sp:=fun vs H Q E=>∃(a:Addr)(bs:List Nat),vs=[.ref a]/\SqL K H a (bs.map iV)/\bs.length<=30000 /\
 (24576 < bs.length->∀H',Zc H H'->E (.ref CL) none H')/\(bs.length<=24576->Kgf1.read bs=none->∀H',Zc H H'->E (.ref C) none H') /\
 (bs.length<=24576->∀t tl H',Kgf1.read bs=some t->Zc H H'->ZaN Ad H' tl t->Q (.ref tl) H')
theorem Zje:Zo ["text","reader","tale"] ["text"] (Zi Zjd):=⟨rfl,rfl,rfl,by decide +kernel,rfl,by decide +kernel,by decide +kernel⟩
theorem Zue(D:Zj K mg "tale_of" Zjd f)(R:Rdr P w K mg base Ad C)(NL:XT K mg "TooLong" CL)(hlen:mg "len"=none)(hMT:GI mg "MOST_TEXT" 24576)
  (F1:Can P w K mg base (CX1 P w) 4 "words_of" ["text"] (Zmv K C)) (F2:ZaS P w K mg base CX0 1 "Reader" Ad.CR ["self","words"] (ZmQ Ad.CR)) (F3:ZaS P w K mg base CX0 1 "Tale" Ad.CT ["self"] (ZmU Ad))
  (F4:Can P w K mg base (CX1 P w) 5 "read_var" ["reader","tale"] (Zc2 Ad C Tl.ZbG)) (F5:Can P w K mg base (CX1 P w) 9 "read_rule" ["reader","tale"] (Zc2 Ad C Tl.Zcs)) (F6:Can P w K mg base (CX1 P w) 2 "check_tale" ["tale"] (Zns Ad C)) :
  Can P w K mg base (CX1 P w) 10 "tale_of" ["text"] (Ze7 K Ad C CL):=by
 refine D.Zap Zje (fun _ _ _ _ _ _ us hl=>match us,hl with|[_],_=>rfl) (fun vs H Q E h=>?_) (fun cdv A outer s H vs Q E hr h=>?_)
 ·obtain⟨a,bs,rfl,_⟩:=h;rfl
 ·obtain⟨a,bs,rfl,hL,hz,k0,k2,k1⟩:=h;refine⟨_,Ze (Zy (ZC ZdT (ZN Z0 (by rfl) hlen PySem.boot_len (Za (pv 0) Zb)) (Zu hMT) (Zz _)) (Zh (Znt Zt NL)) ZD)
   (Ze (Zx (i:=1) Zje.nd rfl (Or.inl rfl) (Ze0 F2 hr Zs (Za (Zp F1 hr (ZJ Zt) (Za (pv 0) Zb)) Zb)))
   (Ze (Zx (i:=2) Zje.nd rfl (Or.inl rfl) (Zh1 F3 hr Zs))
   (Ze (ZbB (Throws.own Zt) (Zam (Z8 (pv 1) R.cl.cl R.passes hr Zs (Za Zad Zb))) (Zh (ZK (Zp F4 hr (ZJ Zt) (Za (pv 1) (Za (pv 2) Zb))))))
   (Ze (ZbB (Throws.own Zt) (ZcI (Zam (Zed (pv 1) R.cl.cl R.done hr Zs))) (Zh (ZK (Zp F5 hr (ZJ Zt) (Za (pv 1) (Za (pv 2) Zb))))))
   (Ze (ZK (Zp F6 hr (ZJ Zt) (Za (pv 2) Zb)))
   (Zh (Zm (pv 2)))))))),?_⟩
  refine⟨_,rfl,a,_,rfl,.inl hL,_,_,rfl,rfl,_,rfl,?_⟩;by_cases hbig:24576 < bs.length
  ·exact ifD (by rw[List.length_map];omega) (k0 hbig H (Zc.refl H))
  refine ifN (by rw[List.length_map];omega) ?_;have hle:bs.length<=24576:=by omega
  have k1:=k1 hle;have k2:=k2 hle;rw[Tl.Zrp] at k1 k2;refine⟨_,rfl,a,bs,rfl,hL,hz,?_⟩;cases et:Tl.toks bs with
  |none =>
   rw[et] at k2;exact k2 rfl
  |some ts =>
  rw[et] at k1 k2;have k1:∀(t:Kgf1.Tale)(tl:Addr)(H':Hp),((Tl.ZaE {} ts).bind fun t=>if Kgf1.okTale t=true then some t else none)=some t->Zc H H'->ZaN Ad H' tl t->Q (.ref tl) H':=k1;have k2:((Tl.ZaE {} ts).bind fun t=>if Kgf1.okTale t=true then some t else none)=none->∀H',Zc H H'->E (.ref C) none H':=k2;intro lw refs H1 s1 hlw htk hrl;intro r dr hr1 hdr hdrr;refine⟨r,dr,lw,rfl,Zd,rfl,?_⟩;rw[Z5];have hR0:ZT Ad H1 (upd (upd H1 dr (.own r)) r (.ins Ad.CR dr (Zan lw 0))) r ts 0 dr lw:=by
   refine⟨Zd,hr1,fun b o e=>?_,⟨refs,hlw,htk⟩,Nat.zero_le _,by rw[←Z2 htk];exact hrl,Tl.Zf0 _ _ _ et⟩;rw[Zf (Zk e hr1),Zf (Zk e hdr)];exact e
  generalize upd (upd H1 dr (.own r)) r (.ins Ad.CR dr (Zan lw 0))=H2 at hR0;intro tl dt htl hdt hdtt;refine⟨tl,dt,rfl,Zd,fun n c w s o l hn hc hw hs ho hl hnd=>⟨rfl,?_⟩⟩;have fr:∀{x:Addr},upd (upd H2 dt (.own tl)) tl (.ins Ad.CT dt []) x=none->x≠tl/\x≠dt/\H2 x=none:=fun{x} h=>by
   obtain⟨a1,a2⟩:=Z3 h;obtain⟨a3,a4⟩:=Z3 a2;exact⟨a1,a3,a4⟩
  obtain⟨n1,n2,n3⟩:=fr hn;obtain⟨c1,c2,c3⟩:=fr hc;obtain⟨w1,w2,w3⟩:=fr hw;obtain⟨s1',s2,s3⟩:=fr hs;obtain⟨o1,o2,o3⟩:=fr ho;obtain⟨l1,l2,l3⟩:=fr hl;simp only[List.nodup_cons,List.mem_cons,List.not_mem_nil,or_false,not_or,List.nodup_nil,and_true,not_false_eq_true] at hnd;obtain⟨⟨nc,nw,ns,no,nl⟩,⟨cw,cs,co,cl⟩,⟨ws,wo,wl⟩,⟨so,sl⟩,ol⟩:=hnd;have ob:=hR0.ob;have rn:r≠n:=Zk ob n3;have rc:r≠c:=Zk ob c3;have rw':r≠w:=Zk ob w3;have rs:r≠s:=Zk ob s3;have ro:r≠o:=Zk ob o3;have rl:r≠l:=Zk ob l3;have rt:r≠tl:=Zk ob htl;have rd:r≠dt:=Zk ob hdt;have gf:∀{x:Addr},H2 x=none->H1 x=none:=fun h=>hR0.gh.free h;generalize hH4:upd (upd (upd (upd (upd (upd (upd (upd (upd H2 dt (.own tl)) tl (.ins Ad.CT dt [])) n (.dK [])) c (.lst [])) w (.lst [])) s (.lst [])) o (.lst [])) l (.lst [])) tl (.ins Ad.CT dt (ZaZ n c w s o l))=H4;have e_tl:H4 tl=some (.ins Ad.CT dt (ZaZ n c w s o l)):=by rw[←hH4,Zd]
  have e_n:H4 n=some (.dK []):=by rw[←hH4,Zf n1,Zf nl,Zf no,Zf ns,Zf nw,Zf nc,Zd]
  have e_c:H4 c=some (.lst []):=by rw[←hH4,Zf c1,Zf cl,Zf co,Zf cs,Zf cw,Zd]
  have e_w:H4 w=some (.lst []):=by rw[←hH4,Zf w1,Zf wl,Zf wo,Zf ws,Zd]
  have e_s:H4 s=some (.lst []):=by rw[←hH4,Zf s1',Zf sl,Zf so,Zd]
  have e_o:H4 o=some (.lst []):=by rw[←hH4,Zf o1,Zf ol,Zd]
  have e_l:H4 l=some (.lst []):=by rw[←hH4,Zf l1,Zd]
  have e_x:∀{x:Addr}{u:HO},H2 x=some u->H4 x=some u:=fun{x u} h=>by
   rw[←hH4,Zf (Zk h htl),Zf (Zk h l3),Zf (Zk h o3),Zf (Zk h s3),Zf (Zk h w3),Zf (Zk h c3),Zf (Zk h n3),Zf (Zk h htl),Zf (Zk h hdt)];exact h
  clear hH4;have hG0:Rg Ad H1 H4 r ts 0 dr lw ⟨tl,dt,n,c,w,s,o,l⟩ {}:=by
   refine⟨⟨e_x ob,hR0.gr,fun b u e=>e_x (hR0.gh _ _ e),hR0.wsG,hR0.le,hR0.big,hR0.sh⟩,⟨e_tl,e_n,gf n3,⟨⟨[],e_c,.nil⟩,gf c3⟩,⟨⟨[],e_w,.nil⟩,gf w3⟩,⟨⟨[],e_s,.nil⟩,gf s3⟩,⟨⟨[],e_o,.nil⟩,gf o3⟩,⟨⟨[],e_l,.nil⟩,gf l3⟩,?_⟩,Nat.le_refl _⟩;simp only[List.nodup_cons,List.mem_cons,List.not_mem_nil,or_false,not_or,List.nodup_nil,and_true,not_false_eq_true];exact⟨⟨cw,cs,co,cl⟩,⟨ws,wo,wl⟩,⟨so,sl⟩,ol⟩
  generalize hT:(⟨tl,dt,n,c,w,s,o,l⟩:Tl6)=T at hG0;have etl:tl=T.tl:=by rw[←hT]
  subst etl;clear hT;refine ZbK (fun m σ H'=>∃(i:Nat)(G':Hp)(t:Kgf1.Tale),m=ts.length - i/\σ=[some (.ref a),some (.ref r),some (.ref T.tl)]/\Zc H1 G'/\Rg Ad G' H' r ts i dr lw T t/\Tl.ZaJ t=true/\Tl.ZaE {} ts=Tl.ZaE t (ts.drop i))
   (fun σ H'=>∃(i:Nat)(G':Hp)(t:Kgf1.Tale),σ=[some (.ref a),some (.ref r),some (.ref T.tl)]/\Zc H1 G'/\Rg Ad G' H' r ts i dr lw T t/\(ts.drop i).head?≠some (Kgf1.kw "var")/\Tl.ZaE {} ts=Tl.ZaE t (ts.drop i)) ?_ ?_ ?_
  ·exact⟨_,0,H1,{},rfl,rfl,Zc.refl _,hG0,rfl,by rw[List.drop_zero]⟩
  ·rintro σ H' ⟨i0,G0,t0,rfl,g0,hg0,hv0,e0⟩;refine ZbK (fun m σ H'=>∃(i:Nat)(G':Hp)(t:Kgf1.Tale),m=ts.length - i/\σ=[some (.ref a),some (.ref r),some (.ref T.tl)]/\Zc H1 G'/\Rg Ad G' H' r ts i dr lw T t/\(Tl.ZaJ t=false\/(ts.drop i).head?≠some (Kgf1.kw "var"))/\Tl.ZaE {} ts=Tl.ZaE t (ts.drop i))
    (fun σ H'=>∃(i:Nat)(G':Hp)(t:Kgf1.Tale),σ=[some (.ref a),some (.ref r),some (.ref T.tl)]/\Zc H1 G'/\Rg Ad G' H' r ts i dr lw T t/\Tl.ZaE {} ts=some t) ?_ ?_ ?_
   ·exact⟨_,i0,G0,t0,rfl,rfl,g0,hg0,.inr hv0,e0⟩
   ·rintro σ H' ⟨i,G',t,rfl,g,hg,e⟩;have sH:Zc H H':=(s1.trans g).trans hg.R.gh;refine⟨_,rfl,G',T,t,rfl,hg.R.gh,hg.T,fun hok=>⟨_,rfl,k1 t T.tl H' ?_ sH (hg.T.at_ hg.R.gh)⟩,fun hok=>k2 ?_ H' sH⟩
    ·rw[e];show(if Kgf1.okTale t=true then _ else _)=_;rw[if_pos hok]
    ·rw[e];show(if Kgf1.okTale t=true then _ else _)=_;rw[if_neg (by rw[hok];decide)]
   ·rintro exit m σ H' ⟨i,G',t,rfl,rfl,g,hg,hv,e⟩;refine⟨_,rfl,r,dr,_,rfl,hg.R.ob,Zai _ _ (by decide +kernel) (by decide +kernel),G',r,ts,i,dr,lw,rfl,hg.R,_,rfl,?_⟩;by_cases hi:i=ts.length
    ·refine Zbt hi (exit _ _ ⟨i,G',t,rfl,g,hg,?_⟩);rw[e,hi,List.drop_length];rfl
    ·have hil:i < ts.length:=by have:=hg.R.le;omega
     have hne:ts.drop i≠[]:=fun z=>by
      have:=congrArg List.length z;rw[List.length_drop] at this;simp at this;omega
     rw[Tl.Zro hne hv] at e;refine ZcY (by rw[decide_eq_false hi];rfl) ⟨_,rfl,_,rfl,G',r,ts,i,dr,lw,T,t,rfl,hg,fun t' j G2 H2' e2 hj gg hg2=>?_,fun z H2' sH2=>k2 ?_ H2' ((s1.trans g).trans sH2)⟩
     ·rw[e2] at e;exact⟨_,by show ts.length - j < ts.length - i;have:=hg2.R.le;omega,j,G2,t',rfl,rfl,g.trans gg,hg2,.inl (Zud e2),e⟩
     ·rw[e,z];rfl
  ·rintro exit m σ H' ⟨i,G',t,rfl,rfl,g,hg,hv,e⟩;refine⟨_,rfl,r,dr,_,rfl,hg.R.ob,Zai _ _ (by decide +kernel) (by decide +kernel),G',r,ts,i,dr,lw,"var",rfl,hg.R,fun ha=>?_,fun ha=>?_⟩
   ·rw[Zay ha] at e;have e:Tl.ZaE {} ts=(Tl.ZbG t (ts.drop (i+1))).bind fun x=>Tl.ZaE x.1 x.2:=e.trans (Tl.Zrl hv);have stm:Step r G' H' G' (Rm Ad H' r dr lw (i+1)):=Step.move hg.R;have hg1:Rg Ad G' (Rm Ad H' r dr lw (i+1)) r ts (i+1) dr lw T t:=⟨hg.R.mv (Zaz ha),hg.T.step hg.R stm,by have:=hg.bd;omega⟩
    refine⟨_,rfl,Zee ⟨_,rfl,_,rfl,G',r,ts,i+1,dr,lw,T,t,rfl,hg1,fun t' j G2 H2' e2 hj gg hg2=>?_,fun z H2' sH2=>k2 ?_ H2' ((s1.trans g).trans sH2)⟩⟩
    ·rw[e2] at e;exact⟨_,by show ts.length - j < ts.length - i;have:=hg2.R.le;omega,j,G2,t',rfl,rfl,g.trans gg,hg2,by rw[Zuc e2];exact hv,e⟩
    ·rw[e,z];rfl
   ·refine⟨_,rfl,ZW (exit _ _ ⟨i,G',t,rfl,g,hg,fun z=>ha ?_,e⟩)⟩;rw[List.head?_drop] at z;exact z
end
end Tp
namespace L2
open PySem PySem.Spec PyProof.Rows
theorem Znv{J:It}{n:Nat}{g:TG}{tb:TS}{D:Ends}{σ:St}{H:Hp}(Pv:Nat->St->Hp->Prop)(h0:Pv 0 σ H)(hgo:∀i σ H,i < n->Pv i σ H->J.go i H)(hst:∀σ H,Pv n σ H->J.stop n H)
  (hs:∀i σ H x H',i < n->Pv i σ H->J.yld i H x H'->g x σ H' fun σ2 H2=>tb { D with nx:=Pv (i+1),ct:=Pv (i+1),bk:=D.nx } σ2 H2) (hd:∀σ H,Pv n σ H->D.nx σ H) :
  ∃W:Nat->Nat->St->Hp->Prop,(∃m,W 0 m σ H)/\∀i m σ H,W i m σ H ->
   (J.stop i H/\D.nx σ H)\/(J.go i H/\∃N:St->Hp->Prop,(∀σ' H',N σ' H'->∃m',m' < m/\W (i+1) m' σ' H')/\∀x H',J.yld i H x H'->g x σ H' fun σ2 H2=>tb { D with nx:=N,ct:=N,bk:=D.nx } σ2 H2):=by
 refine⟨fun i m σ H=>m=n - i/\i<=n/\Pv i σ H,⟨n,by simp,Nat.zero_le _,h0⟩,?_⟩;rintro i m σ H ⟨rfl,hi,p⟩;by_cases hlt:i < n
 ·exact .inr ⟨hgo i σ H hlt p,Pv (i+1),fun σ' H' p'=>⟨n - (i+1),by omega,rfl,hlt,p'⟩,fun x H' y=>hs i σ H x H' hlt p y⟩
 ·have e:i=n:=by omega
  subst e;exact .inl ⟨hst σ H p,hd σ H p⟩
theorem Zep{J:It}{n:Nat}{g:TG}{tt:TT}{te:TE}{vs:List Nat}{σ:St}{H1:Hp}{D:Addr}{Qd:Hp->Prop}(Pv:Nat->Hp->Prop)(h0:Pv 0 (upd H1 D (.lst [])))(hgo:∀i H,i < n->Pv i H->J.go i H)(hst:∀H,Pv n H->J.stop n H)
  (hs:∀i H x H',i < n->Pv i H->J.yld i H x H'->g x (wipe σ vs) H' fun σ2 H2=>wipe σ2 vs=wipe σ vs/\tt σ2 H2 fun b H3 =>
   if b=true then te σ2 H3 fun y H4=>∃acc,H4 D=some (.lst acc)/\acc.length < sizeLine/\Pv (i+1) (upd H4 D (.lst (acc++[y]))) else Pv (i+1) H3) (hd:∀H,Pv n H->Qd H) :
  ∃W:Nat->Nat->Hp->Prop,(∃m,W 0 m (upd H1 D (.lst [])))/\∀i m H,W i m H ->
   (J.stop i H/\Qd H)\/(J.go i H/\∃Nx:Hp->Prop,(∀H',Nx H'->∃m',m' < m/\W (i+1) m' H')/\∀x H',J.yld i H x H'->g x (wipe σ vs) H' fun σ2 H2=>wipe σ2 vs=wipe σ vs/\tt σ2 H2 fun b H3 =>
    if b=true then te σ2 H3 fun y H4=>∃acc,H4 D=some (.lst acc)/\acc.length < sizeLine/\Nx (upd H4 D (.lst (acc++[y]))) else Nx H3):=by
 refine⟨fun i m H=>m=n - i/\i<=n/\Pv i H,⟨n,by simp,Nat.zero_le _,h0⟩,?_⟩;rintro i m H ⟨rfl,hi,p⟩;by_cases hlt:i < n
 ·exact .inr ⟨hgo i H hlt p,Pv (i+1),fun H' p'=>⟨n - (i+1),by omega,rfl,hlt,p'⟩,fun x H' y=>hs i H x H' hlt p y⟩
 ·have e:i=n:=by omega
  subst e;exact .inl ⟨hst H p,hd H p⟩
def Zuf(td:TE):TI:=fun σ H R=>td σ H fun x H1=>∃d kvs,x=.ref d/\H1 d=some (.dK kvs)/\∀o,R (Itk d o kvs) (upd H1 d (.frz o (.dK kvs)))
theorem Zug{X:Cx}{tg e:Expr}{td:TE}(he:PE X e td):PI X tg e (Zuf td):=by
 intro pins s σ H R I h;refine thn (he pins s σ H _ I h) fun u s1 ⟨x,H1,I1,rx,d,kvs,ex,hd0,q⟩=>?_;subst ex;obtain rfl:u=Value.ref d:=rx;obtain⟨od,I2⟩:=I1.lock hd0 True.intro;have hd:upd H1 d (.frz od (.dK kvs)) d=some (.frz od (.dK kvs)):=Zd;obtain⟨hs,hgd,hx,es,ep,vs,hdt,hsz,kv,hm⟩:=I2.Zd2 hd;refine ZqG hs hgd hx hdt (ZkV (tk:=s1.toks) I2 _ (ZqI _ hdt) ⟨_,Heap.get?_push_size _ rfl,rfl,?_⟩ (q od));rw[hsz]<;>rfl
theorem Ze8(a b:Nat):Builtin.bitAnd (a:Int) (b:Int)=((a &&& b:Nat):Int):=by
 rw[PyProof.Rows.bitAnd_pp (by omega) (by omega)];rfl
theorem Zjf(a b:Nat):Builtin.bitOr (a:Int) (b:Int)=((a ||| b:Nat):Int):=by
 rw[PyProof.Rows.bitOr_and,Ze8];have:=Tl.ZlE a b;omega
theorem sum_nat(l:List Nat):(l.map fun(n:Nat)=>(n:Int)).sum=((l.sum:Nat):Int):=by
 induction l with
 |nil=>rfl
 |cons a l ih=>rw[List.map_cons,List.sum_cons,List.sum_cons,ih];push_cast;rfl
end L2
namespace Tp
open PySem L2
variable{P:Program}{w:World}{K:PySem.W.Frag}{mg:Str->Option Value}{base:Heap}{f C CL CM:Addr}{Ad:Ads}
def Ze9(F:Hp)(v:V)(r:List Nat):Prop:=∃l,v=.ref l/\F l=some (.lst (r.map iV))
theorem Ze9.same{F F':Hp}{v:V}{r:List Nat}(s:Zc F F')(h:Ze9 F v r):Ze9 F' v r:=by
 obtain⟨l,e,h1⟩:=h;exact⟨l,e,s _ _ h1⟩
def ZaL(F:Hp)(lb:Addr)(sz:List Nat):Prop:=∃refs,F lb=some (.lst refs)/\Paired (Ze9 F) refs (Tl.rows sz)
theorem ZaL.same{F F':Hp}{lb:Addr}{sz:List Nat}(s:Zc F F')(h:ZaL F lb sz):ZaL F' lb sz:=by
 obtain⟨refs,h1,h2⟩:=h;exact⟨refs,s _ _ h1,Paired.ZP h2 fun _ _ z=>z.same s⟩
theorem ZaL.at_{F:Hp}{lb:Addr}{sz:List Nat}(h:ZaL F lb sz):∃refs,F lb=some (.lst refs)/\refs.length=sz.length/\∀v k,sz[v]?=some k->∃l,refs[v]?=some (.ref l)/\F l=some (.lst ((Tl.row sz v k).map iV)):=by
 obtain⟨refs,h1,h2⟩:=h;have hl:refs.length=sz.length:=by rw[Z2 h2,Tl.ZeR]
 refine⟨refs,h1,hl,fun v k hk=>?_⟩;have hv:v < refs.length:=by rw[hl];exact(List.getElem?_eq_some_iff.mp hk).1
 obtain⟨x,hx⟩:∃x,refs[v]?=some x:=⟨_,List.getElem?_eq_getElem hv⟩
 obtain⟨r,hr,l,rfl,hl2⟩:=ZaC h2 hx;rw[Tl.ZlI hk] at hr;cases hr;exact⟨l,hx,hl2⟩
abbrev Zjg:Stmt:=top 69
abbrev Zgt:Stmt:=top 70
abbrev Zgu:Stmt:=top 71
abbrev Zjh:Stmt:=top 72
abbrev Zgv:Stmt:=top 73
abbrev Zji:Stmt:=top 74
structure Zc4(sz:List Nat):Prop where
 len:sz.length<=24
 le:∀(v k:Nat),sz[v]?=some k->k<=16
theorem Zuh{t:Kgf1.Tale}(h:Tl.Zch t)(hv:t.vars.length<=24):Zc4 (Tl.Zg t):=by
 refine⟨by rw[List.length_map];exact hv,fun v k hk=>?_⟩;rw[List.getElem?_map] at hk;cases e:t.vars[v]? with
 |none=>rw[e] at hk;cases hk
 |some x =>
  rw[e] at hk;cases hk;exact(h.vn x (List.mem_of_getElem? e)).2
section
def Znw(Ad:Ads):Sp:=fun vs H Q _=>∃(tl:Addr)(t:Kgf1.Tale),vs=[.ref tl]/\ZaN Ad H tl t/\Zc4 (Tl.Zg t)/\∀lb H',Zc H H'->ZaL H' lb (Tl.Zg t)->Q (.ref lb) H'
theorem Zeq:Zo ["tale","bits","bit","choices","row"] ["tale"] (Zi Zjg):=⟨rfl,rfl,rfl,by decide +kernel,rfl,by decide +kernel,by decide +kernel⟩
theorem Zui{sz:List Nat}{v k m:Nat}(h:m < k):(Tl.row sz v k).take (m+1)=(Tl.row sz v k).take m++[2 ^ Tl.ix sz v m]:=by
 rw[List.take_add_one,Tl.ZeS h];rfl
theorem Zuj(D:Zj K mg "bits_of" Zjg f)(CT:Zv K Ad.CT Za8)(hlen:mg "len"=none):Can P w K mg base CX0 1 "bits_of" ["tale"] (Znw Ad):=by
 refine D.can Zeq (fun _ _ _ _ _ _ us hl=>match us,hl with|[_],_=>rfl) (fun vs H Q E h=>?_) (fun cdv A outer s H vs Q E hr h=>?_)
 ·obtain⟨tl,t,rfl,_⟩:=h;rfl
 ·obtain⟨tl,t,rfl,hT,hz,k⟩:=h;have big:sizeLine=16777216:=by decide
  refine⟨_,Ze (Zx (i:=1) Zeq.nd rfl (Or.inl rfl) (ZQ Zb)) (Ze (Zx (i:=2) Zeq.nd rfl (Or.inl rfl) Zr)
   (Ze (Za1 PassesOwn.never rfl (Zaw (Zl (pv 0) rfl)) (ZL (i:=3) Zeq.nd rfl (Or.inl rfl))
    (Ze (Zx (i:=4) Zeq.nd rfl (Or.inl rfl) (ZQ Zb))
    (Ze (ZbB PassesOwn.never (ZC Zcq (ZN Z0 (by rfl) hlen PySem.boot_len (Za (pv 4) Zb)) (ZN Zhu (by rfl) hlen PySem.boot_len (Za (pv 3) Zb)) (Zz _))
     (Ze (ZK (Zax PySem.F.plainAttrs_list PySem.F.slot_list_append PySem.F.type_list_append ZaQ (pv 4) (Za (pv 2) Zb)))
     (Zh (ZbP (i:=2) Zeq.nd rfl (Or.inl rfl) (pv 2) ZcK))))
    (Zh (ZK (Zax PySem.F.plainAttrs_list PySem.F.slot_list_append PySem.F.type_list_append ZaQ (pv 1) (Za (pv 4) Zb)))))))
   (Zh (Zm (pv 1))))),?_⟩
  obtain⟨dx,n,c,w,s,o,l,crefs,h1,h2,h3⟩:=hT.ch;have hcl:=Z2 h3;refine⟨by show 0<=sizeLine;decide,fun lb hlb=>?_⟩;have g0:Zc H (upd H lb (.lst [])):=Zq hlb;have hsz:(Tl.Zg t).length=t.vars.length:=List.length_map _;have hvl:t.vars.length<=24:=by rw[←hsz];exact hz.len
  refine⟨_,rfl,tl,Ad.CT,dx,_,_,rfl,g0 _ _ h1,CT.cl,CT.no _ (by decide +kernel),ZcZ ..,c,rfl,⟨_,SqL.of (g0 _ _ h2)⟩,?_⟩;have base:∀{G H':Hp},Zc H G->Zc G H'->SqL K H' c crefs:=fun g1 g2=>SqL.of (g2 _ _ (g1 _ _ h2));refine Za9 (K:=K) (a:=c) (xs:=crefs) (fun i σ H'=>∃G refs o3 o4,σ=[some (.ref tl),some (.ref lb),some (iV (2 ^ Tl.off (Tl.Zg t) i)),o3,o4]/\Zc H G/\Zc G H'/\G lb=none/\H' lb=some (.lst refs)/\Paired (Ze9 G) refs ((Tl.rows (Tl.Zg t)).take i))
   ⟨H,[],none,none,?_,Zc.refl _,g0,hlb,Zd,.nil⟩ (fun i σ H' _ ⟨G,refs,_,_,_,g1,g2,_⟩=>base g1 g2) ?_ ?_
  ·rw[Tl.ZlG];rfl
  ·rintro i x σ H' hx ⟨G,refs,o3,o4,rfl,g1,g2,gl,hl,hp⟩;obtain⟨y,hy,d,rfl,hd⟩:=ZaC h3 hx;have hk:(Tl.Zg t)[i]?=some y.values.length:=by rw[List.getElem?_map,hy];rfl
   have hle:=hz.le i _ hk;have hil:i < (Tl.rows (Tl.Zg t)).length:=by rw[Tl.ZeR];exact(List.getElem?_eq_some_iff.mp hk).1
   have hrl:refs.length<=i:=by
    rw[Z2 hp,List.length_take];omega
   have hi24:i < 24:=by
    rw[Tl.ZeR,hsz] at hil;omega
   refine⟨by show 0<=sizeLine;decide,fun lr hlr=>?_⟩;have hlbr:lb≠lr:=Zk hl hlr;have g3:∀o,Zc H' (upd H' lr o):=fun o=>Zq hlr;have hdH:=g2 _ _ (g1 _ _ hd);refine ZbK (fun m σ H2=>∃j,m=y.values.length - j/\j<=y.values.length/\σ=[some (.ref tl),some (.ref lb),some (iV (2 ^ (Tl.off (Tl.Zg t) i+j))),some (.ref d),some (.ref lr)]/\H2=upd H' lr (.lst (((Tl.row (Tl.Zg t) i y.values.length).take j).map iV)))
    (fun σ H2=>σ=[some (.ref tl),some (.ref lb),some (iV (2 ^ Tl.off (Tl.Zg t) (i+1))),some (.ref d),some (.ref lr)]/\H2=upd H' lr (.lst ((Tl.row (Tl.Zg t) i y.values.length).map iV))) ?_ ?_ ?_
   ·exact⟨_,0,rfl,Nat.zero_le _,rfl,rfl⟩
   ·rintro σ H2 ⟨rfl,rfl⟩;have hlr2:G lr=none:=g2.free hlr;refine⟨_,rfl,.inl ⟨rfl,_,SqL.of (by rw[Zf hlbr];exact hl)⟩,_,rfl,lb,refs,_,rfl,rfl,by rw[Zf hlbr];exact hl,by omega,?_⟩;refine⟨upd G lr (.lst ((Tl.row (Tl.Zg t) i y.values.length).map iV)),refs++[.ref lr],_,_,rfl,g1.trans (Zq hlr2),fun a u e=>?_,by rw[Zf hlbr];exact gl,Zd,?_⟩
    ·by_cases z:a=lr
     ·rw[z,Zd] at e;rw[z,Zf hlbr.symm,Zd];exact e
     ·rw[Zf z] at e;have:a≠lb:=Zk e gl;rw[Zf this,Zf z];exact g2 _ _ e
    ·rw[List.take_add_one,Tl.ZlI hk];exact Paired.snoc (Paired.ZP hp fun _ _ z=>z.same (Zq hlr2)) ⟨lr,rfl,Zd⟩
   ·rintro exit m σ H2 ⟨j,rfl,hj,rfl,rfl⟩;have hrow:((Tl.row (Tl.Zg t) i y.values.length).take j).length=j:=by
     rw[List.length_take];unfold Tl.row;rw[List.length_map,List.length_range];omega
    refine⟨_,rfl,lr,_,rfl,.inl (SqL.of Zd),_,rfl,d,_,rfl,g3 _ _ _ hdH,_,_,rfl,rfl,_,rfl,?_⟩;by_cases hlt:j < y.values.length
    ·refine ZcY (decide_eq_true (by rw[map_len,hrow,ZdB];omega)) ?_;refine⟨_,rfl,.inl ⟨rfl,_,SqL.of Zd⟩,_,rfl,lr,_,_,rfl,rfl,Zd,by rw[map_len,hrow];omega,?_⟩;refine⟨_,rfl,_,rfl,_,_,rfl,rfl,?_⟩;refine⟨_,?_,j+1,rfl,hlt,?_,?_⟩
     ·show y.values.length - (j+1) < y.values.length - j;omega
     ·have e:((2 ^ (Tl.off (Tl.Zg t) i+j):Nat):Int)+((2 ^ (Tl.off (Tl.Zg t) i+j):Nat):Int)=((2 ^ (Tl.off (Tl.Zg t) i+(j+1)):Nat):Int):=by
       rw[←Nat.add_assoc,Nat.pow_succ];push_cast;omega
      show[some (V.ref tl),some (V.ref lb),some (V.int (((2 ^ (Tl.off (Tl.Zg t) i+j):Nat):Int)+((2 ^ (Tl.off (Tl.Zg t) i+j):Nat):Int))),some (V.ref d),some (V.ref lr)]=_;rw[e]
     ·rw[Z5,Zui hlt,List.map_append];rfl
    ·have hje:j=y.values.length:=by omega
     refine ifN (by rw[map_len,hrow,ZdB];omega) (exit _ _ ⟨?_,?_⟩)
     ·rw[Tl.ZbT hk,hje]
     ·rw[hje,List.take_of_length_le];unfold Tl.row;rw[List.length_map,List.length_range];omega
  ·rintro σ H' ⟨G,refs,o3,o4,rfl,g1,g2,gl,hl,hp⟩;refine⟨_,rfl,k lb H' (g1.trans g2) ⟨refs,hl,?_⟩⟩;rw[hcl,←hsz,←Tl.ZeR,List.take_length] at hp;exact Paired.ZP hp fun _ _ z=>z.same g2
def Zjj:Sp:=fun vs H Q _=>∃(lb:Addr)(sz:List Nat),vs=[.ref lb]/\ZaL H lb sz/\Zc4 sz/\∀H',Zc H H'->Q (iV ((Tl.rows sz).map List.sum).sum) H'
theorem Zjk:Zo ["bits","row"] ["bits"] (Zi Zgt):=⟨rfl,rfl,rfl,by decide +kernel,rfl,by decide +kernel,by decide +kernel⟩
def Zuk:Scope:={ kind:=.function,names:=[(".0",.local),("row",.local),("sum",.globalImplicit)],isGenerator:=false,isCoroutine:=false }
theorem Zul:ZaT ["bits","row"] (Zi Zgt) Zuk [("row",1)]:=⟨rfl,by decide +kernel,by decide +kernel,by decide +kernel,by decide +kernel⟩
theorem boot_sum:bootBuiltins "sum"=some (.builtin "sum"):=by decide +kernel
theorem ZcA(l:List Nat):(l.map fun(n:Nat)=>(n:Int)).map V.int=l.map iV:=by rw[List.map_map];rfl
theorem Zum(D:Zj K mg "every_bit" Zgt f)(hsum:mg "sum"=none):Can P w K mg base CX0 1 "every_bit" ["bits"] Zjj:=by
 refine D.can Zjk (fun _ _ _ _ _ _ us hl=>match us,hl with|[_],_=>rfl) (fun vs H Q E h=>?_) (fun cdv A outer s H vs Q E hr h=>?_)
 ·obtain⟨lb,sz,rfl,_⟩:=h;rfl
 ·obtain⟨lb,sz,rfl,hB,hz,k⟩:=h;have big:sizeLine=16777216:=by decide
  refine⟨_,Zh (Zm (ZN (ZeI rfl) (by rfl) hsum boot_sum (Za (Zbr (own:=[("row",1)]) (tt:=ZaU) (te:=tCB (ZkI K) (ZU (ZH 1) Zaf)) rfl Zjk.nd (Zaw (pv 0)) Zul
   (fun _ _ _ _ _=>ZL (i:=1) Zjk.nd rfl (Or.inl rfl)) (fun _ _ _ _ _=>Zb9) (fun _ _ _ _ _=>ZN (ZeI rfl) (by rfl) hsum boot_sum (Za (pv 1) Zb))) Zb))),?_⟩
  obtain⟨refs,h1,h2⟩:=hB;have hl:=Z2 h2;refine⟨_,rfl,lb,rfl,⟨_,SqL.of h1⟩,fun Dl hD=>?_⟩;have s1:∀o,Zc H (upd H Dl o):=fun o=>Zq hD;refine ZcN (K:=K) (a:=lb) (xs:=refs) (fun i H'=>H'=upd H Dl (.lst ((((Tl.rows sz).take i).map List.sum).map iV))/\i<=24) ⟨rfl,by omega⟩ (fun i H' _ e=>by rw[e.1];exact SqL.of (s1 _ _ _ h1)) ?_ ?_
  ·rintro i x H' hx ⟨rfl,hi⟩;obtain⟨r,hr,l,rfl,hl2⟩:=ZaC h2 hx;have hlt:i < 24:=by
    have:=(List.getElem?_eq_some_iff.mp hr).1;rw[Tl.ZeR] at this;have:=hz.len;omega
   refine⟨rfl,?_⟩;simp only[ZaU,if_true];refine⟨_,rfl,l,r.map (fun(n:Nat)=>(n:Int)),rfl,SqL.of (by rw[ZcA];exact s1 _ _ _ hl2),_,Zd,?_,?_,hlt⟩
   ·rw[List.length_map,List.length_map,List.length_take];omega
   ·rw[Z5,List.take_add_one,hr,List.map_append,List.map_append,sum_nat];rfl
  ·rintro H' ⟨rfl,_⟩;rw[hl,List.take_length];refine⟨Dl,((Tl.rows sz).map List.sum).map (fun(n:Nat)=>(n:Int)),rfl,SqL.of (by rw[ZcA];exact Zd),?_⟩;rw[sum_nat];exact k _ (s1 _)
end
end Tp
namespace L2
open PySem PySem.Spec PyProof.Rows
theorem Znx{X:Cx}:PIp X .BitOr (ipI fun i j=>Builtin.bitOr i j):=by
 intro pins s σ H x y v u Q I r1 r2 h;obtain⟨i,j,e1,e2,q⟩:=h;subst e1;subst e2;obtain⟨t,rfl⟩:=r1;obtain⟨t',rfl⟩:=r2;exact ior_int ⟨.int _,H,I.tok _,⟨_,rfl⟩,q⟩
end L2
namespace Tp
open PySem L2
variable{P:Program}{w:World}{K:PySem.W.Frag}{mg:Str->Option Value}{base:Heap}{f C CL CM:Addr}{Ad:Ads}
section
def Zer:Sp:=fun vs H Q _=>∃(lb:Addr)(v:V)(sz:List Nat)(c:Kgf1.Cond),vs=[.ref lb,v]/\ZaL H lb sz/\Zaq H v c/\Tl.Fits sz c/\Q (iV (Tl.ZM sz c)) H
theorem ZdE:Zo ["bits","condition","barred","var","choice","asked","bit"] ["bits","condition"] (Zi Zji):=⟨rfl,rfl,rfl,by decide +kernel,rfl,by decide +kernel,by decide +kernel⟩
theorem Zun(D:Zj K mg "barred_by" Zji f)(hsum:mg "sum"=none):Can P w K mg base CX0 1 "barred_by" ["bits","condition"] Zer:=by
 refine D.can ZdE (fun _ _ _ _ _ _ us hl=>match us,hl with|[_,_],_=>rfl) (fun vs H Q E h=>?_) (fun cdv A outer s H vs Q E hr h=>?_)
 ·obtain⟨lb,v,sz,c,rfl,_⟩:=h;rfl
 ·obtain⟨lb,v,sz,c,rfl,hB,hC,hF,k⟩:=h;obtain⟨l,refs,rfl,hl,hp⟩:=hC;obtain⟨brefs,hb1,hb2,hb3⟩:=hB.at_;refine⟨_,Ze (Zx (i:=2) ZdE.nd rfl (Or.inl rfl) Zr)
   (Ze (Za1 PassesOwn.never rfl (Zaw (pv 1)) (ZbA rfl (Zal (ZL (i:=3) ZdE.nd rfl (Or.inl rfl)) (Zal (ZL (i:=4) ZdE.nd rfl (Or.inl rfl)) (Zal (ZL (i:=5) ZdE.nd rfl (Or.inl rfl)) Zbz))))
    (Ze (Zx (i:=6) ZdE.nd rfl (Or.inl rfl) (ZG ZO (ZG ZO (pv 0) (pv 3) (fun _ _=>rfl)) (pv 4) (fun _ _=>rfl)))
    (Zh (ZbP (i:=2) ZdE.nd rfl (Or.inl rfl) (ZdS (Zam (pv 5)) (ZY Zb5 (ZN (ZeI rfl) (by rfl) hsum boot_sum (Za (ZG ZO (pv 0) (pv 3) (fun _ _=>rfl)) Zb)) (pv 6)) (pv 6)) Znx))))
   (Zh (Zm (pv 2)))),?_⟩
  have hlen:=Z2 hp;refine⟨_,rfl,l,rfl,⟨_,SqL.of hl⟩,Za9 (K:=K) (a:=l) (xs:=refs) (fun i σ H'=>H'=H/\∃o3 o4 o5 o6,σ=[some (.ref lb),some (.ref l),some (iV (Tl.ZM sz (c.take i))),o3,o4,o5,o6]) ⟨rfl,none,none,none,none,rfl⟩ (fun i σ H' _ ⟨e,_⟩=>by rw[e];exact SqL.of hl) ?_ ?_⟩
  ·rintro i x σ H' hx ⟨rfl,o3,o4,o5,o6,rfl⟩;obtain⟨p,hpi,q,rfl,hq⟩:=ZaC hp hx;obtain⟨kk,hv,hc⟩:=hF p (List.mem_of_getElem? hpi);obtain⟨lr,hr1,hr2⟩:=hb3 p.var kk hv;have hbit:((Tl.row sz p.var kk).map iV)[p.value]?=some (iV (2 ^ Tl.ix sz p.var p.value)):=Zbe (Tl.ZeS hc);refine⟨q,_,rfl,SqT.of hq,rfl,_,_,rfl,_,_,rfl,_,_,rfl,rfl,?_⟩;refine⟨_,rfl,_,rfl,lb,_,_,_,rfl,rfl,SqL.of hb1,ZF hr1,_,rfl,lr,_,_,_,rfl,rfl,SqL.of hr2,ZF hbit,?_⟩;refine⟨_,rfl,_,rfl,_,rfl,?_⟩;have fin:∀b:Nat,b=Tl.Zcg sz p->∀σ:St,σ=[some (V.ref lb),some (V.ref l),some (V.int (Builtin.bitOr ((Tl.ZM sz (c.take i):Nat):Int) (b:Int))),some (iV p.var),some (iV p.value),some (V.bl p.is),some (iV (2 ^ Tl.ix sz p.var p.value))] ->
     H'=H'/\∃o3 o4 o5 o6,σ=[some (.ref lb),some (.ref l),some (iV (Tl.ZM sz (c.take (i+1)))),o3,o4,o5,o6]:=by
    rintro b rfl σ rfl;rw[Zjf,←Tl.ZrJ sz hpi];exact⟨rfl,_,_,_,_,rfl⟩
   have egd:sz.getD p.var 0=kk:=Tl.getD_at hv;cases ha:p.is with
   |true =>
    refine Zar ?_;refine⟨_,rfl,_,rfl,lb,_,_,_,rfl,rfl,SqL.of hb1,ZF hr1,lr,(Tl.row sz p.var kk).map (fun(n:Nat)=>(n:Int)),rfl,SqL.of (by rw[ZcA];exact hr2),_,rfl,_,_,rfl,rfl,_,_,rfl,rfl,?_⟩;have hle:2 ^ Tl.ix sz p.var p.value<=(Tl.row sz p.var kk).sum:=Tl.ZrK hc;have e:((Tl.row sz p.var kk).map fun(n:Nat)=>(n:Int)).sum - ((2 ^ Tl.ix sz p.var p.value:Nat):Int)=(((Tl.row sz p.var kk).sum - 2 ^ Tl.ix sz p.var p.value:Nat):Int):=by
     rw[sum_nat];omega
    rw[e];exact fin ((Tl.row sz p.var kk).sum - 2 ^ Tl.ix sz p.var p.value) (by unfold Tl.Zcg;rw[ha,egd];rfl) _ (by rw[ha];rfl)
   |false =>
    refine ZW ?_;exact⟨_,rfl,_,_,rfl,rfl,fin (2 ^ Tl.ix sz p.var p.value) (by unfold Tl.Zcg;rw[ha];rfl) _ (by rw[ha];rfl)⟩
  ·rintro σ H' ⟨rfl,o3,o4,o5,o6,rfl⟩;rw[hlen,List.take_length];exact⟨_,rfl,k⟩
def Zjl(K:PySem.W.Frag):Sp:=fun vs H Q _=>∃(lb ln:Addr)(sz ns:List Nat),vs=[.ref lb,.ref ln]/\ZaL H lb sz/\SqL K H ln (ns.map iV)/\Zc4 sz/\Tl.Ok sz (ns.take sz.length)/\∀H',Zc H H'->Q (iV (Tl.pk sz ns)) H'
theorem Zgw:Zo ["bits","numbers","row","number"] ["bits","numbers"] (Zi Zgu):=⟨rfl,rfl,rfl,by decide +kernel,rfl,by decide +kernel,by decide +kernel⟩
def Zuo:Scope:={ kind:=.function,names:=[(".0",.local),("row",.local),("number",.local)],isGenerator:=false,isCoroutine:=false }
theorem Zup:ZaT ["bits","numbers","row","number"] (Zi Zgu) Zuo [("row",2),("number",3)]:=⟨rfl,by decide +kernel,by decide +kernel,by decide +kernel,by decide +kernel⟩
theorem Zuq(D:Zj K mg "packed_state" Zgu f)(hsum:mg "sum"=none)(hzip:mg "zip"=none):Can P w K mg base CX0 1 "packed_state" ["bits","numbers"] (Zjl K):=by
 refine D.can Zgw (fun _ _ _ _ _ _ us hl=>match us,hl with|[_,_],_=>rfl) (fun vs H Q E h=>?_) (fun cdv A outer s H vs Q E hr h=>?_)
 ·obtain⟨lb,ln,sz,ns,rfl,_⟩:=h;rfl
 ·obtain⟨lb,ln,sz,ns,rfl,hB,hN,hz,hok,k⟩:=h;have big:sizeLine=16777216:=by decide
  obtain⟨brefs,hb1,hb2,hb3⟩:=hB.at_;refine⟨_,Zh (Zm (ZN (ZeI rfl) (by rfl) hsum boot_sum (Za (Zbr (own:=[("row",2),("number",3)]) (g:=Zdf K 2 (Zbn (ZaP 2) (Zbn (ZaP 3) Zde))) (tt:=ZaU) (te:=tOp (Zdl K) (ZH 2) (ZH 3)) rfl Zgw.nd (ZqU (by rfl) hzip (Za (pv 0) (Za (pv 1) Zb))) Zup
   (fun _ _ _ _ _=>ZbA rfl (Zal (ZL (i:=2) Zgw.nd rfl (Or.inl rfl) (Or.inr rfl)) (Zal (ZL (i:=3) Zgw.nd rfl (Or.inl rfl) (Or.inr rfl)) Zbz))) (fun _ _ _ _ _=>Zb9) (fun _ _ _ _ _=>ZG ZO (pv 2) (pv 3) (fun _ _=>rfl))) Zb))),?_⟩
  have hnl:sz.length<=ns.length:=by
   have:=hok.len;rw[List.length_take] at this;omega
  have hz24:=hz.len;refine⟨_,rfl,_,rfl,lb,ln,_,_,rfl,SqL.of hb1,hN,fun Dl hD=>?_⟩;refine Zep (n:=sz.length) (fun i H'=>Zc H H'/\H' Dl=some (.lst (((List.range i).map fun v=>2 ^ Tl.ix sz v (ns.getD v 0)).map iV))/\i<=sz.length) ⟨Zq hD,Zd,Nat.zero_le _⟩ ?_ ?_ ?_ ?_
  ·rintro i H' hi ⟨s1,_,_⟩;exact⟨_,_,_,_,SqL.of (s1 _ _ hb1),s1.seq hN,List.getElem?_eq_getElem (by rw[hb2];exact hi),List.getElem?_eq_getElem (by rw[List.length_map];omega)⟩
  ·rintro H' ⟨s1,_,_⟩;exact⟨_,_,SqL.of (s1 _ _ hb1),s1.seq hN,.inl (by rw[hb2];exact Nat.le_refl _)⟩
  ·rintro i H' x H2 hi ⟨s1,hl,_⟩ ⟨T,a,b,rfl,hT,rfl,ha,hb⟩;have ea:=ha _ (SqL.of (s1 _ _ hb1));have eb:=hb _ (s1.seq hN);obtain⟨kk,hk⟩:∃kk,sz[i]?=some kk:=⟨_,List.getElem?_eq_getElem hi⟩
   obtain⟨lr,hr1,hr2⟩:=hb3 i kk hk;rw[hr1] at ea;cases ea;have hni:ns[i]?=some (ns.getD i 0):=by rw[List.getD_eq_getElem?_getD,List.getElem?_eq_getElem (by omega)];rfl
   rw[Zbe hni] at eb;cases eb;have hlt:ns.getD i 0 < kk:=hok.lt i _ _ (by rw[List.getElem?_take,if_pos hi];exact hni) hk;have s2:Zc H' (upd H' T (.tup [.ref lr,iV (ns.getD i 0)])):=Zq hT;have hbit:((Tl.row sz i kk).map iV)[ns.getD i 0]?=some (iV (2 ^ Tl.ix sz i (ns.getD i 0))):=Zbe (Tl.ZeS hlt);refine⟨T,_,rfl,SqT.of Zd,rfl,_,_,rfl,_,_,rfl,rfl,rfl,?_⟩;simp only[ZaU,if_true];refine⟨_,rfl,_,rfl,lr,_,_,_,rfl,rfl,SqL.of (s2 _ _ (s1 _ _ hr2)),ZF hbit,_,s2 _ _ hl,?_,fun c u e=>?_,?_,hi⟩
   ·rw[List.length_map,List.length_map,List.length_range];omega
   ·rw[Zf (Zk e hD)];exact s2 _ _ (s1 _ _ e)
   ·rw[Zd,List.range_succ,List.map_append,List.map_append];rfl
  ·rintro H' ⟨s1,hl,_⟩;refine⟨Dl,((List.range sz.length).map fun v=>2 ^ Tl.ix sz v (ns.getD v 0)).map (fun(n:Nat)=>(n:Int)),rfl,SqL.of (by rw[ZcA];exact hl),?_⟩;rw[sum_nat];exact k _ s1
def Zny(K:PySem.W.Frag):Sp:=fun vs H Q _=>∃(lb ln:Addr)(sz ns:List Nat),vs=[.ref lb,.ref ln]/\ZaL H lb sz/\SqL K H ln (ns.map iV)/\(Tl.Zeb sz ns->∀H',Zc H H'->Q (.bl true) H')/\(¬Tl.Zeb sz ns->∀H',Zc H H'->Q (.bl false) H')
theorem Zgx:Zo ["bits","numbers","var","number","choices"] ["bits","numbers"] (Zi Zjh):=⟨rfl,rfl,rfl,by decide +kernel,rfl,by decide +kernel,by decide +kernel⟩
theorem Zur(D:Zj K mg "is_state" Zjh f)(hlen:mg "len"=none)(henum:mg "enumerate"=none):Can P w K mg base CX0 1 "is_state" ["bits","numbers"] (Zny K):=by
 refine D.can Zgx (fun _ _ _ _ _ _ us hl=>match us,hl with|[_,_],_=>rfl) (fun vs H Q E h=>?_) (fun cdv A outer s H vs Q E hr h=>?_)
 ·obtain⟨lb,ln,sz,ns,rfl,_⟩:=h;rfl
 ·obtain⟨lb,ln,sz,ns,rfl,hB,hN,k1,k2⟩:=h;obtain⟨brefs,hb1,hb2,hb3⟩:=hB.at_;refine⟨_,Ze (Za1 PassesOwn.never rfl (ZeN (by rfl) henum (Za (pv 1) Zb)) (ZbA rfl (Zal (ZL (i:=2) Zgx.nd rfl (Or.inl rfl)) (Zal (ZL (i:=3) Zgx.nd rfl (Or.inl rfl)) Zbz)))
    (Ze (Zx (i:=4) Zgx.nd rfl (Or.inl rfl) (ZdS (ZC Zcq (pv 2) (ZN Z0 (by rfl) hlen PySem.boot_len (Za (pv 0) Zb)) (Zz _)) (ZN Z0 (by rfl) hlen PySem.boot_len (Za (ZG ZO (pv 0) (pv 2) (fun _ _=>rfl)) Zb)) Zr))
    (Zh (Zy (ZC Zke (pv 3) (pv 4) (Zz _)) (Zh (Zm ZdM)) ZD))))
   (Zh (Zm ZdM)),?_⟩
  refine⟨_,rfl,ln,_,rfl,hN,?_⟩;refine Znv (n:=ns.length) (fun i σ H'=>Zc H H'/\(∃o2 o3 o4,σ=[some (.ref lb),some (.ref ln),o2,o3,o4])/\∀v c:Nat,v < i->ns[v]?=some c->c < (if v < sz.length then sz.getD v 0 else 1)) ⟨Zc.refl _,⟨none,none,none,rfl⟩,fun v c h=>absurd h (Nat.not_lt_zero _)⟩ ?_ ?_ ?_ ?_
  ·rintro i σ H' hi ⟨s1,_,_⟩;exact⟨_,_,s1.seq hN,List.getElem?_eq_getElem (by rw[List.length_map];exact hi)⟩
  ·rintro σ H' ⟨s1,_,_⟩;exact⟨_,s1.seq hN,by rw[List.length_map];exact Nat.le_refl _⟩
  ·rintro i σ H' x H2 hi ⟨s1,⟨o2,o3,o4,rfl⟩,hh⟩ ⟨T,a,rfl,hT,rfl,ha⟩;have ea:=ha _ (s1.seq hN);obtain⟨c,hc⟩:∃c,ns[i]?=some c:=⟨_,List.getElem?_eq_getElem hi⟩
   rw[Zbe hc] at ea;cases ea;have s2:Zc H (upd H' T (.tup [.int (i:Nat),iV c])):=s1.trans (Zq hT);have fin:∀b:Nat,b=(if i < sz.length then sz.getD i 0 else 1)->(if decide (((b:Nat):Int)<=((c:Nat):Int))=true then Q (.bl false) (upd H' T (.tup [.int (i:Nat),iV c])) else Zc H (upd H' T (.tup [.int (i:Nat),iV c]))/\(∃o2 o3 o4,[some (V.ref lb),some (V.ref ln),some (iV i),some (iV c),some (iV b)]=[some (.ref lb),some (.ref ln),o2,o3,o4])/\∀v c:Nat,v < i+1->ns[v]?=some c->c < (if v < sz.length then sz.getD v 0 else 1)):=by
    rintro b hb;by_cases hlt:c < b
    ·refine ifN (by omega) ⟨s2,⟨_,_,_,rfl⟩,fun v c' hv hc'=>?_⟩;by_cases e:v=i
     ·subst e;rw[hc] at hc';cases hc';rw[←hb];exact hlt
     ·exact hh v c' (by omega) hc'
    ·refine ifD (by omega) (k2 (fun z=>?_) _ s2);have:=z i c hc;rw[←hb] at this;exact hlt this
   refine⟨T,_,rfl,SqT.of Zd,rfl,_,_,rfl,_,_,rfl,rfl,?_⟩;refine⟨_,rfl,_,rfl,lb,_,rfl,.inl (SqL.of (s2 _ _ hb1)),_,_,rfl,rfl,_,rfl,?_⟩;by_cases hi2:i < sz.length
   ·obtain⟨kk,hk⟩:∃kk,sz[i]?=some kk:=⟨_,List.getElem?_eq_getElem hi2⟩
    obtain⟨lr,hr1,hr2⟩:=hb3 i kk hk;refine ifD (by rw[hb2];omega) ⟨_,rfl,_,rfl,lb,_,_,_,rfl,rfl,SqL.of (s2 _ _ hb1),ZF hr1,lr,_,rfl,.inl (SqL.of (s2 _ _ hr2)),?_⟩;have hrl:((Tl.row sz i kk).map iV).length=kk:=by unfold Tl.row;rw[map_len,List.length_map,List.length_range]
    rw[hrl];refine⟨_,rfl,_,rfl,_,_,rfl,rfl,_,rfl,?_⟩;exact fin kk (by rw[if_pos hi2,Tl.getD_at hk])
   ·refine ifN (by rw[hb2];omega) ⟨_,rfl,_,rfl,_,_,rfl,rfl,_,rfl,?_⟩;exact fin 1 (by rw[if_neg hi2])
  ·rintro σ H' ⟨s1,_,hh⟩;exact k1 (fun v c hc=>hh v c (List.getElem?_eq_some_iff.mp hc).1 hc) H' s1
end
def Zus(K:PySem.W.Frag)(a b:TE):TT:=fun σ H Q=>tOp (rI0 fun i j=>.int (Builtin.bitAnd i j)) a b σ H fun x H'=>∃k,Zg5 K x H' k/\Q k H'
theorem Znz(x j:Nat):x &&& 2 ^ j=0↔x.testBit j=false:=by
 rw[Tl.and_zero];constructor
 ·intro h;cases e:x.testBit j with
  |false=>rfl
  |true =>
   have:=h j e;rw[Tl.ZaX] at this;simp at this
 ·intro h i hi;rw[Tl.ZaX,decide_eq_false_iff_not];intro e;rw[e,hi] at h;cases h
theorem ZnA(c:Nat):∀n,(List.range n).filter (fun m=>m==c)=if c < n then[c] else[]
 |0=>by simp
 |n+1=>by
  rw[List.range_succ,List.filter_append,ZnA c n];by_cases h:n=c
  ·subst h;simp
  ·have hb:(n==c)=false:=by simpa using h
   have e:List.filter (fun m=>m==c) [n]=[]:=by simp[hb]
   rw[e,List.append_nil];by_cases h2:c < n
   ·rw[if_pos h2,if_pos (by omega)]
   ·rw[if_neg h2,if_neg (by omega)]
section
def ZnB:Sp:=fun vs H Q _=>∃(lb:Addr)(sz st:List Nat),vs=[.ref lb,iV (Tl.pk sz st)]/\ZaL H lb sz/\Zc4 sz/\Tl.Ok sz st/\∀p H',Zc H H'->H' p=some (.lst ((Kgf2.flat st).map iV))->Q (.ref p) H'
theorem Zes:Zo ["bits","state","numbers","row","number","bit"] ["bits","state"] (Zi Zgv):=⟨rfl,rfl,rfl,by decide +kernel,rfl,by decide +kernel,by decide +kernel⟩
def Zut:Scope:={ kind:=.function,names:=[(".0",.local),("number",.local),("bit",.local),("state",.free)],isGenerator:=false,isCoroutine:=false }
theorem Zuu:ZaT ["bits","state","numbers","row","number","bit"] (Zi Zgv) Zut [("number",4),("bit",5)]:=⟨rfl,by decide +kernel,by decide +kernel,by decide +kernel,by decide +kernel⟩
theorem Zuv(D:Zj K mg "numbers_of" Zgv f)(hlen:mg "len"=none)(henum:mg "enumerate"=none)(hMV:GI mg "MOST_VARS" 24):Can P w K mg base CX0 1 "numbers_of" ["bits","state"] ZnB:=by
 refine D.can Zes (fun _ _ _ _ _ _ us hl=>match us,hl with|[_,_],_=>rfl) (fun vs H Q E h=>?_) (fun cdv A outer s H vs Q E hr h=>?_)
 ·obtain⟨lb,sz,st,rfl,_⟩:=h;rfl
 ·obtain⟨lb,sz,st,rfl,hB,hz,hok,k⟩:=h;have big:sizeLine=16777216:=by decide
  obtain⟨brefs,hb1,hb2,hb3⟩:=hB.at_;have hz24:=hz.len;refine⟨_,Ze (Zx (i:=2) Zes.nd rfl (Or.inl rfl) (ZQ Zb))
   (Ze (Za1 PassesOwn.never rfl (Zaw (pv 0)) (ZL (i:=3) Zes.nd rfl (Or.inl rfl))
    (Zh (ZK (Zax PySem.F.plainAttrs_list PySem.F.slot_list_extend PySem.F.type_list_extend Zhd (pv 2)
     (Za (Zbr (own:=[("number",4),("bit",5)]) (g:=Zdf K 2 (Zbn (ZaP 4) (Zbn (ZaP 5) Zde))) (tt:=Zus K (ZH 1) (ZH 5)) (te:=ZH 4) rfl Zes.nd (ZeN (by rfl) henum (Za (pv 3) Zb)) Zuu
      (fun _ _ _ _ _=>ZbA rfl (Zal (ZL (i:=4) Zes.nd rfl (Or.inl rfl) (Or.inr rfl)) (Zal (ZL (i:=5) Zes.nd rfl (Or.inl rfl) (Or.inr rfl)) Zbz)))
      (fun _ _ _ _ _=>ZeK (Zo8 (ZY ZeE (pv 1) (pv 5)) (fun _=>rfl))) (fun _ _ _ _ _=>pv 4)) Zb)))))
   (Zh (Zm (ZY ZdX (pv 2) (ZY Zhe (ZQ (Za Zr Zb)) (ZY Zb5 (Zu hMV) (ZN Z0 (by rfl) hlen PySem.boot_len (Za (pv 2) Zb)))))))),?_⟩
  refine⟨by show 0<=sizeLine;decide,fun ln hln=>?_⟩;have g0:Zc H (upd H ln (.lst [])):=Zq hln;have hsl:st.length=sz.length:=hok.len;refine⟨_,rfl,lb,rfl,⟨_,SqL.of (g0 _ _ hb1)⟩,Za9 (K:=K) (a:=lb) (xs:=brefs) (fun i σ H'=>Zc H H'/\H' ln=some (.lst ((st.take i).map iV))/\∃o3,σ=[some (.ref lb),some (iV (Tl.pk sz st)),some (.ref ln),o3,none,none]) ⟨g0,Zd,none,rfl⟩ (fun i σ H' _ ⟨s1,_⟩=>SqL.of (s1 _ _ hb1)) ?_ ?_⟩
  ·rintro i x σ H' hx ⟨s1,hl,o3,rfl⟩;have hi:i < sz.length:=by rw[←hb2];exact(List.getElem?_eq_some_iff.mp hx).1
   obtain⟨c,kk,hc,hk,hck,hgd⟩:=hok.at_ hi;obtain⟨lr,hr1,hr2⟩:=hb3 i kk hk;rw[hx] at hr1;cases hr1;have hkk:=hz.le i kk hk;have hrl:((Tl.row sz i kk).map iV).length=kk:=by unfold Tl.row;rw[map_len,List.length_map,List.length_range]
   refine⟨_,rfl,.inl ⟨rfl,_,SqL.of hl⟩,_,rfl,lr,_,rfl,SqL.of (s1 _ _ hr2),fun Dl hD=>?_⟩;refine Zep (n:=kk) (fun m H2=>Zc H' H2/\H2 Dl=some (.lst (((List.range m).filter fun j=>j==c).map iV))/\m<=kk) ⟨Zq hD,Zd,Nat.zero_le _⟩ ?_ ?_ ?_ ?_
   ·rintro m H2 hm ⟨s2,_,_⟩;exact⟨_,_,SqL.of (s2 _ _ (s1 _ _ hr2)),List.getElem?_eq_getElem (by rw[hrl];exact hm)⟩
   ·rintro H2 ⟨s2,_,_⟩;exact⟨_,SqL.of (s2 _ _ (s1 _ _ hr2)),by rw[hrl];exact Nat.le_refl _⟩
   ·rintro m H2 y H3 hm ⟨s2,hl2,_⟩ ⟨T,b,rfl,hT,rfl,hb⟩;have eb:=hb _ (SqL.of (s2 _ _ (s1 _ _ hr2)));rw[Zbe (Tl.ZeS hm)] at eb;cases eb;have s3:Zc H2 (upd H2 T (.tup [.int (m:Nat),iV (2 ^ Tl.ix sz i m)])):=Zq hT;have hflen:((List.range m).filter fun j=>j==c).length<=16:=by
     have:=List.length_filter_le (fun j=>j==c) (List.range m);rw[List.length_range] at this;omega
    have erange:(List.range (m+1)).filter (fun j=>j==c)=(List.range m).filter (fun j=>j==c)++(if m==c then[m] else[]):=by
     rw[List.range_succ,List.filter_append];congr 1;simp[List.filter_cons]
    refine⟨T,_,rfl,SqT.of Zd,rfl,_,_,rfl,_,_,rfl,rfl,rfl,?_⟩;refine⟨_,rfl,_,rfl,_,_,rfl,rfl,decide (c=m),?_,?_⟩
    ·show decide (c=m)=(Builtin.bitAnd ((Tl.pk sz st:Nat):Int) ((2 ^ Tl.ix sz i m:Nat):Int) != 0)
     rw[Ze8];have e:=Tl.Zd9 hok hk hm;rw[hgd] at e;rw[←e];cases hb2':(Tl.pk sz st).testBit (Tl.ix sz i m) with
     |false=>rw[(Znz _ _).mpr hb2'];rfl
     |true =>
      have:Tl.pk sz st &&& 2 ^ Tl.ix sz i m≠0:=fun z=>by rw[(Znz _ _).mp z] at hb2';cases hb2'
      symm;rw[bne_iff_ne];exact fun z=>this (by omega)
    ·by_cases hcm:c=m
     ·refine ifD hcm ⟨_,rfl,_,s3 _ _ hl2,by rw[map_len];omega,fun a u e=>?_,?_,hm⟩
      ·rw[Zf (Zk e hD)];exact s3 _ _ (s2 _ _ e)
      ·rw[Zd,erange,if_pos (by simpa using hcm.symm),List.map_append];rfl
     ·refine ifN hcm ⟨s2.trans s3,?_,hm⟩;rw[s3 _ _ hl2,erange,if_neg (by simpa using fun z=>hcm z.symm),List.append_nil]
   ·rintro H2 ⟨s2,hl2,_⟩;rw[ZnA,if_pos hck] at hl2;refine⟨ln,Dl,_,_,rfl,rfl,s2 _ _ hl,hl2,?_,fun a u e=>?_,?_,_,rfl⟩
    ·rw[map_len,List.length_take];show _+1<=_;omega
    ·rw[Zf (Zk e hln)];exact s2 _ _ (s1 _ _ e)
    ·rw[Zd,List.take_add_one,hc,List.map_append];rfl
  ·rintro σ H' ⟨s1,hl,o3,rfl⟩;rw[hb2,←hsl,List.take_length] at hl;refine⟨_,rfl,by show 1<=sizeLine;decide,fun p0 hp0=>?_⟩;have s2:Zc H' (upd H' p0 (.lst [.int 0])):=Zq hp0;refine⟨_,rfl,ln,_,rfl,.inl (SqL.of (s2 _ _ hl)),_,_,rfl,rfl,p0,_,_,rfl,rfl,Zd,?_,?_,?_,fun p1 hp1=>?_⟩
   ·rw[map_len];omega
   ·rw[map_len];omega
   ·show 1 * _<=_;rw[map_len];omega
   ·have s3:Zc (upd H' p0 (.lst [.int 0])) (upd (upd H' p0 (.lst [.int 0])) p1 (.lst (List.replicate ((24:Int) - ((st.map iV).length:Int)).toNat [V.int 0]).flatten)):=Zq hp1;refine⟨ln,p1,_,_,rfl,rfl,s3 _ _ (s2 _ _ hl),Zd,?_,fun p2 hp2=>?_⟩
    ·rw[Zgb,map_len,List.length_replicate];omega
    ·refine k p2 _ ((s1.trans s2).trans (s3.trans (Zq hp2))) ?_;rw[Zd,Tl.ZeY (by omega),List.map_append,Zgb,map_len];have e:((24:Int) - (st.length:Int)).toNat=24 - st.length:=by omega
     rw[e,List.map_replicate];rfl
end
def wK(w:List Nat):List Key:=w.map fun(n:Nat)=>(Sum.inl (n:Int):Key)
theorem ZnC(w:List Nat):(wK w).map kV=w.map iV:=by unfold wK;rw[List.map_map];rfl
theorem Zuw{a b:List Nat}:wK a=wK b↔a=b:=by
 constructor
 ·intro h;unfold wK at h;induction a generalizing b with
  |nil =>
   cases b with
   |nil=>rfl
   |cons _ _=>cases h
  |cons x a ih =>
   cases b with
   |nil=>cases h
   |cons y b =>
    rw[List.map_cons,List.map_cons] at h;have h1:=(List.cons.inj h).1;have h2:=ih (List.cons.inj h).2;have h3:((x:Nat):Int)=((y:Nat):Int):=Sum.inl.inj h1;rw[h2];congr 1;omega
 ·intro h;rw[h]
def mkv(N:Nat)(u:List (List Nat)):List (List Key×V):=u.zipIdx.map fun x=>(wK x.1,iV (2 ^ (N+x.2)))
theorem Zux(N:Nat)(u:List (List Nat)):(mkv N u).length=u.length:=by unfold mkv;rw[List.length_map,List.length_zipIdx]
theorem ZnD(N:Nat)(w:List Nat):∀(u:List (List Nat))(k:Nat),Zab ((u.zipIdx k).map fun x=>(wK x.1,iV (2 ^ (N+x.2)))) (wK w)=if w∈u then some (iV (2 ^ (N+(u.idxOf w+k)))) else none
 |[],_=>rfl
 |a::u,k=>by
  rw[List.zipIdx_cons,List.map_cons];by_cases h:a=w
  ·subst h;rw[Zdp rfl,if_pos List.mem_cons_self,List.idxOf_cons_self];simp
  ·rw[Zdq (fun z=>h (Zuw.mp z)),ZnD N w u (k+1)];have hb:(a==w)=false:=by simpa using h
   have hm:w∈a::u↔w∈u:=by
    rw[List.mem_cons];exact⟨fun z=>z.elim (fun e=>absurd e.symm h) id,.inr⟩
   by_cases hw:w∈u
   ·rw[if_pos hw,if_pos (hm.mpr hw),List.idxOf_cons,hb];show some (iV (2 ^ (N+(u.idxOf w+(k+1)))))=some (iV (2 ^ (N+(u.idxOf w+1+k))));congr 4;omega
   ·rw[if_neg hw,if_neg (fun z=>hw (hm.mp z))]
theorem Zjm(N:Nat)(w:List Nat)(u:List (List Nat)):Zab (mkv N u) (wK w)=if w∈u then some (iV (2 ^ (N+u.idxOf w))) else none:=by
 have:=ZnD N w u 0;exact this
theorem Zuy{N:Nat}{w:List Nat}{u:List (List Nat)}(h:w∉u):putK (mkv N u) (wK w) (iV (2 ^ (N+u.length)))=mkv N (u++[w]):=by
 unfold putK;rw[ZdZ,Zjm,if_neg h];show mkv N u++[(wK w,_)]=_;unfold mkv;rw[List.zipIdx_append,List.map_append];congr 1;simp
abbrev Zgy:Stmt:=top 75
abbrev Zjn:Stmt:=top 76
abbrev Zgz:Stmt:=top 77
theorem ZnE:bootBuiltins "tuple"=some (.type "tuple"):=by decide +kernel
section
def ZdF(N:Nat)(ws:List Kgf1.When):List Nat:=ws.map fun x=>2 ^ (N+Tl.mix (ws.map Kgf1.When.words) x.words)
def ZnF(Ad:Ads):Sp:=fun vs H Q _=>∃(lw:Addr)(N:Nat)(refs:List V)(ws:List Kgf1.When),vs=[.ref lw,iV (2 ^ N)]/\H lw=some (.lst refs)/\Paired (Zbf Ad.CW H) refs ws/\ws.length<=128/\∀p H',Zc H H'->H' p=some (.lst ((ZdF N ws).map iV))->Q (.ref p) H'
theorem Zc5:Zo ["whens","lowest","marks","bit","when","typed"] ["whens","lowest"] (Zi Zgy):=⟨rfl,rfl,rfl,by decide +kernel,rfl,by decide +kernel,by decide +kernel⟩
def Zuz:Scope:={ kind:=.function,names:=[(".0",.local),("when",.local),("tuple",.globalImplicit),("marks",.free)],isGenerator:=false,isCoroutine:=false }
theorem ZuA:ZaT ["whens","lowest","marks","bit","when","typed"] (Zi Zgy) Zuz [("when",4)]:=⟨rfl,by decide +kernel,by decide +kernel,by decide +kernel,by decide +kernel⟩
def ZuB(K:PySem.W.Frag):List V->Hp->VK->Prop:=fun xs H Q=>∃p ys,xs=[.ref p]/\((SqL K H p ys/\∀l,H l=none->Q (.ref l) (upd H l (.tup ys)))\/(SqT K H p ys/\Q (.ref p) H))
theorem ZuC(D:Zj K mg "marks_of" Zgy f)(CW:Zv K Ad.CW Zdz)(htup:mg "tuple"=none):Can P w K mg base CX0 1 "marks_of" ["whens","lowest"] (ZnF Ad):=by
 refine D.can Zc5 (fun _ _ _ _ _ _ us hl=>match us,hl with|[_,_],_=>rfl) (fun vs H Q E h=>?_) (fun cdv A outer s H vs Q E hr h=>?_)
 ·obtain⟨lw,N,refs,ws,rfl,_⟩:=h;rfl
 ·obtain⟨lw,N,refs,ws,rfl,hl,hp,hz,k⟩:=h;have hu:=hu1 hr;have big:sizeLine=16777216:=by decide
  have hlen:=Z2 hp;refine⟨_,Ze (Zx (i:=2) Zc5.nd rfl (Or.inr rfl) Zqx) (Ze (Zx (i:=3) Zc5.nd rfl (Or.inl rfl) (pv 1))
   (Ze (Za1 PassesOwn.never rfl (Zaw (pv 0)) (ZL (i:=4) Zc5.nd rfl (Or.inl rfl))
    (Ze (Zx (i:=5) Zc5.nd rfl (Or.inl rfl) (Zfw ZkD (by rfl) htup ZnE (Za (Zl (pv 4) rfl) Zb)))
    (Zh (Zy (Zdd (ZfE hu (pv 5) (pv 2))) (Ze (ZfF hu (pv 2) (pv 5) (pv 3) rfl) (Zh (ZbP (i:=3) Zc5.nd rfl (Or.inl rfl) (pv 3) ZcK))) ZD))))
   (Zh (Zm (Zbr (own:=[("when",4)]) (tt:=ZaU) (te:=ZfD (ZH 2) (tCB (ZuB K) (ZU (Zbo K (ZH 4) "typed") Zaf))) rfl Zc5.nd (Zaw (pv 0)) ZuA (fun _ _ _ _ _=>ZL (i:=4) Zc5.nd rfl (Or.inl rfl)) (fun _ _ _ _ _=>Zb9)
    (fun _ _ _ _ _=>ZeL hu (pv 2) (Zfw ZkD (by rfl) htup ZnE (Za (Zl (pv 4) rfl) Zb)) (fun _ _=>rfl))))))),?_⟩
  intro dm hdm;have g0:Zc H (upd H dm (.dT [])):=Zq hdm;refine⟨_,rfl,_,rfl,lw,rfl,⟨_,SqL.of (g0 _ _ hl)⟩,Za9 (K:=K) (a:=lw) (xs:=refs) (fun i σ H'=>Zc H H'/\H' dm=some (.dT (mkv N (Tl.uniq ((ws.map Kgf1.When.words).take i))))/\i<=128/\∃o4 o5,σ=[some (.ref lw),some (iV (2 ^ N)),some (.ref dm),some (iV (2 ^ (N+(Tl.uniq ((ws.map Kgf1.When.words).take i)).length))),o4,o5])
   ⟨g0,Zd,by omega,none,none,rfl⟩ (fun i σ H' _ ⟨s1,_⟩=>SqL.of (s1 _ _ hl)) ?_ ?_⟩
  ·rintro i x σ H' hx ⟨s1,hd,hi,o4,o5,rfl⟩;obtain⟨y,hy,p,dy,lt,ll,vc,vd,rfl,g1,g2,g3,g4,g5⟩:=ZaC hp hx;have hwi:(ws.map Kgf1.When.words)[i]?=some y.words:=by rw[List.getElem?_map,hy];rfl
   have hil:i < ws.length:=(List.getElem?_eq_some_iff.mp hy).1;refine⟨_,rfl,p,Ad.CW,dy,_,_,rfl,s1 _ _ g1,CW.cl,CW.no _ (by decide +kernel),Zil ..,lt,_,rfl,.inl ⟨SqL.of (s1 _ _ g2),fun q hq=>?_⟩⟩;have s2:Zc H' (upd H' q (.tup (y.words.map iV))):=Zq hq;have hqt:upd H' q (.tup (y.words.map iV)) q=some (.tup ((wK y.words).map kV)):=by rw[Zd,ZnC]
   have hd2:=s2 _ _ hd;have hdg:=Zas.t (k:=wK y.words) hd2 hqt;have eun:=Tl.ZfU hwi;have hul:=Tl.ZlT (ws.map Kgf1.When.words) i;refine⟨_,rfl,_,rfl,dm,_,rfl,hdg,_,rfl,?_⟩;rw[Zjm];by_cases hm:y.words∈Tl.uniq ((ws.map Kgf1.When.words).take i)
   ·rw[if_pos hm] at eun ⊢;refine ZW ⟨s1.trans s2,?_,by omega,some (.ref p),some (.ref q),?_⟩
    ·rw[eun];exact hd2
    ·rw[eun];rfl
   ·rw[if_neg hm] at eun ⊢;refine Zar ⟨_,rfl,_,rfl,_,rfl,dm,_,rfl,Zca.t hd2 hqt (by rw[Zux];omega),?_⟩;refine⟨_,rfl,_,rfl,_,_,rfl,rfl,fun a u e=>?_,?_,by omega,some (.ref p),some (.ref q),?_⟩
    ·rw[Zf (Zk e hdm)];exact s2 _ _ (s1 _ _ e)
    ·rw[Zd,Zuy hm,eun]
    ·rw[eun,List.length_append];have e:((2 ^ (N+(Tl.uniq ((ws.map Kgf1.When.words).take i)).length):Nat):Int)+((2 ^ (N+(Tl.uniq ((ws.map Kgf1.When.words).take i)).length):Nat):Int)=((2 ^ (N+((Tl.uniq ((ws.map Kgf1.When.words).take i)).length+1)):Nat):Int):=by
      rw[←Nat.add_assoc,Nat.pow_succ];push_cast;omega
     show[some (V.ref lw),some (iV (2 ^ N)),some (V.ref dm),some (V.int (((2 ^ (N+(Tl.uniq ((ws.map Kgf1.When.words).take i)).length):Nat):Int)+((2 ^ (N+(Tl.uniq ((ws.map Kgf1.When.words).take i)).length):Nat):Int))),some (V.ref p),some (V.ref q)]=_;rw[e];rfl
  ·rintro σ H' ⟨s1,hd,_,o4,o5,rfl⟩;rw[hlen,←List.length_map (f:=Kgf1.When.words),List.take_length] at hd;refine⟨_,rfl,lw,rfl,⟨_,SqL.of (s1 _ _ hl)⟩,fun Dl hD=>?_⟩;refine ZcN (K:=K) (a:=lw) (xs:=refs) (fun i H2=>Zc H' H2/\H2 Dl=some (.lst (((ZdF N ws).take i).map iV))/\i<=128) ⟨Zq hD,Zd,by omega⟩ (fun i H2 _ ⟨s2,_⟩=>SqL.of (s2 _ _ (s1 _ _ hl))) ?_ ?_
   ·rintro i x H2 hx ⟨s2,hl2,hi⟩;obtain⟨y,hy,p,dy,lt,ll,vc,vd,rfl,g1,g2,g3,g4,g5⟩:=ZaC hp hx;have hwi:(ws.map Kgf1.When.words)[i]?=some y.words:=by rw[List.getElem?_map,hy];rfl
    have hil:i < ws.length:=(List.getElem?_eq_some_iff.mp hy).1;have hmem:y.words∈Tl.uniq (ws.map Kgf1.When.words):=by
     have:=Tl.ZhP hwi (n:=(ws.map Kgf1.When.words).length) (by rw[List.length_map];exact hil);rwa [List.take_length] at this
    refine⟨rfl,?_⟩;simp only[ZaU,if_true];refine⟨_,rfl,_,rfl,p,Ad.CW,dy,_,_,rfl,s2 _ _ (s1 _ _ g1),CW.cl,CW.no _ (by decide +kernel),Zil ..,lt,_,rfl,.inl ⟨SqL.of (s2 _ _ (s1 _ _ g2)),fun q hq=>?_⟩⟩;have s3:Zc H2 (upd H2 q (.tup (y.words.map iV))):=Zq hq;have hqt:upd H2 q (.tup (y.words.map iV)) q=some (.tup ((wK y.words).map kV)):=by rw[Zd,ZnC]
    have hdg:=Zas.t (k:=wK y.words) (s3 _ _ (s2 _ _ hd)) hqt;rw[Zjm,if_pos hmem] at hdg;refine⟨dm,_,rfl,hdg,_,s3 _ _ hl2,?_,fun a u e=>?_,?_,by omega⟩
    ·rw[map_len,List.length_take];omega
    ·rw[Zf (Zk e hD)];exact s3 _ _ (s2 _ _ e)
    ·have em:(ZdF N ws)[i]?=some (2 ^ (N+Tl.mix (ws.map Kgf1.When.words) y.words)):=by unfold ZdF;rw[List.getElem?_map,hy];rfl
     rw[Zd,List.take_add_one,em,List.map_append];rfl
   ·rintro H2 ⟨s2,hl2,_⟩;refine k Dl H2 (s1.trans s2) ?_;rw[hl2,List.take_of_length_le];unfold ZdF;rw[List.length_map];omega
theorem ZuD{sz:List Nat}{c:Kgf1.Cond}(hf:Tl.Fits sz c)(hn:(c.map Kgf1.Part.var).Nodup){n:Nat}{p:Kgf1.Part}(hp:c[n]?=some p):(Tl.row sz p.var (sz.getD p.var 0)).sum<=Tl.Zbc sz (c.take n):=by
 have hnl:=(List.getElem?_eq_some_iff.mp hp).1;obtain⟨k,hv,hc⟩:=hf p (List.mem_of_getElem? hp);refine(Tl.ZfQ fun j hj=>?_).1;rw[Tl.Zct,decide_eq_true_eq,Tl.getD_at hv] at hj;rw[Tl.ZlS hf hn n (by omega)];have h1:=Tl.ZbT hv;have h2:=Tl.ZcU sz (show p.var+1<=sz.length from(List.getElem?_eq_some_iff.mp hv).1);refine⟨by omega,fun q hq hjq=>?_⟩;obtain⟨k',hv',hc'⟩:=hf q (List.mem_of_mem_take hq);rw[Tl.getD_at hv'] at hjq;have e:Tl.ix sz p.var (j - Tl.off sz p.var)=Tl.ix sz q.var (j - Tl.off sz q.var):=by unfold Tl.ix;omega
 have evar:=(Tl.Zd8 hv hv' (by omega) (by omega) e).1;obtain⟨m,hm,eq⟩:=List.getElem_of_mem hq;rw[List.length_take] at hm;rw[List.getElem_take] at eq;obtain⟨_,ep⟩:=List.getElem?_eq_some_iff.mp hp;have a1:(c.map Kgf1.Part.var)[m]'(by rw[List.length_map];omega)=(c.map Kgf1.Part.var)[n]'(by rw[List.length_map];omega):=by
  rw[List.getElem_map,List.getElem_map,eq,ep,evar]
 have:=Tl.ZcT hn a1;omega
def ZgA(sz:List Nat)(k m:Nat)(x:Kgf1.When):List V:=[iV k,iV (Tl.ZM sz x.cond+m),iV (Tl.Zbc sz x.change),iV (Tl.putN sz x.change),iV m]
def Zjo(Ad:Ads):Sp:=fun vs H Q _=>∃(lb:Addr)(v:V)(k m:Nat)(sz:List Nat)(x:Kgf1.When),vs=[.ref lb,v,iV k,iV m]/\ZaL H lb sz/\Zc4 sz/\Zbf Ad.CW H v x/\Tl.Fits sz x.cond/\Tl.Fits sz x.change/\(x.change.map Kgf1.Part.var).Nodup /\
 ∀q H',Zc H H'->H q=none->H' q=some (.tup (ZgA sz k m x))->Q (.ref q) H'
theorem ZdG:Zo ["bits","when","number","mark","kept","put","var","choice"] ["bits","when","number","mark"] (Zi Zjn):=⟨rfl,rfl,rfl,by decide +kernel,rfl,by decide +kernel,by decide +kernel⟩
theorem ZuE(D:Zj K mg "move_of" Zjn f)(CW:Zv K Ad.CW Zdz)(hsum:mg "sum"=none)(F1:Can P w K mg base CX0 1 "every_bit" ["bits"] Zjj)(F2:Can P w K mg base CX0 1 "barred_by" ["bits","condition"] Zer) :
  Can P w K mg base CX0 2 "move_of" ["bits","when","number","mark"] (Zjo Ad):=by
 refine D.can ZdG (fun _ _ _ _ _ _ us hl=>match us,hl with|[_,_,_,_],_=>rfl) (fun vs H Q E h=>?_) (fun cdv A outer s H vs Q E hr h=>?_)
 ·obtain⟨lb,v,k,m,sz,x,rfl,_⟩:=h;rfl
 ·obtain⟨lb,v,kn,m,sz,x,rfl,hB,hz,hW,hc,hch,hn,k⟩:=h;obtain⟨p,dp,lt,ll,vc,vd,rfl,g1,g2,g3,g4,g5⟩:=hW;obtain⟨l,refs,rfl,hl,hp⟩:=g4;have hlen:=Z2 hp;refine⟨_,Ze (Zx (i:=4) ZdG.nd rfl (Or.inl rfl) (Zp F1 hr Zs (Za (pv 0) Zb))) (Ze (Zx (i:=5) ZdG.nd rfl (Or.inl rfl) Zr)
   (Ze (Za1 PassesOwn.never rfl (Zaw (Zl (pv 1) rfl)) (ZbA rfl (Zal (ZL (i:=6) ZdG.nd rfl (Or.inl rfl)) (Zal (ZL (i:=7) ZdG.nd rfl (Or.inl rfl)) Zbz)))
    (Ze (ZbP (i:=4) ZdG.nd rfl (Or.inl rfl) (ZN (ZeI rfl) (by rfl) hsum boot_sum (Za (ZG ZO (pv 0) (pv 6) (fun _ _=>rfl)) Zb)) ZoW)
    (Zh (ZbP (i:=5) ZdG.nd rfl (Or.inl rfl) (ZG ZO (ZG ZO (pv 0) (pv 6) (fun _ _=>rfl)) (pv 7) (fun _ _=>rfl)) ZcK))))
   (Zh (Zm (Zdi (Za (pv 2) (Za (ZY ZbD (Zp F2 hr Zs (Za (pv 0) (Za (Zl (pv 1) rfl) Zb))) (pv 3)) (Za (pv 4) (Za (pv 5) (Za (pv 3) Zb)))))))))),?_⟩
  refine⟨_,rfl,lb,sz,rfl,hB,hz,fun H1 s1=>?_⟩;obtain⟨brefs,hb1,hb2,hb3⟩:=(hB.same s1).at_;refine⟨_,rfl,p,Ad.CW,dp,_,_,rfl,s1 _ _ g1,CW.cl,CW.no _ (by decide +kernel),Zmz ..,l,rfl,⟨_,SqL.of (s1 _ _ hl)⟩,Za9 (K:=K) (a:=l) (xs:=refs) (fun i σ H'=>H'=H1/\∃o6 o7,σ=[some (.ref lb),some (.ref p),some (iV kn),some (iV m),some (iV (Tl.Zbc sz (x.change.take i))),some (iV (Tl.putN sz (x.change.take i))),o6,o7]) ⟨rfl,none,none,rfl⟩ (fun i σ H' _ ⟨e,_⟩=>by rw[e];exact SqL.of (s1 _ _ hl)) ?_ ?_⟩
  ·rintro i y σ H' hy ⟨rfl,o6,o7,rfl⟩;obtain⟨pt,hpi,_,q,rfl,hq⟩:=ZaC hp hy;obtain⟨kk,hv,hck⟩:=hch pt (List.mem_of_getElem? hpi);obtain⟨lr,hr1,hr2⟩:=hb3 pt.var kk hv;have hbit:((Tl.row sz pt.var kk).map iV)[pt.value]?=some (iV (2 ^ Tl.ix sz pt.var pt.value)):=Zbe (Tl.ZeS hck);have hle:=ZuD hch hn hpi;rw[Tl.getD_at hv] at hle;refine⟨q,_,rfl,SqT.of (s1 _ _ hq),rfl,_,_,rfl,_,_,rfl,rfl,?_⟩;refine⟨_,rfl,_,rfl,_,rfl,lb,_,_,_,rfl,rfl,SqL.of hb1,ZF hr1,lr,(Tl.row sz pt.var kk).map (fun(n:Nat)=>(n:Int)),rfl,SqL.of (by rw[ZcA];exact hr2),_,_,rfl,rfl,?_⟩;have e:((Tl.Zbc sz (x.change.take i):Nat):Int) - ((Tl.row sz pt.var kk).map fun(n:Nat)=>(n:Int)).sum=((Tl.Zbc sz (x.change.take (i+1)):Nat):Int):=by
    rw[sum_nat,Tl.ZlQ sz hpi,Tl.getD_at hv];omega
   refine⟨_,rfl,_,rfl,_,rfl,lb,_,_,_,rfl,rfl,SqL.of hb1,ZF hr1,_,rfl,lr,_,_,_,rfl,rfl,SqL.of hr2,ZF hbit,_,_,rfl,rfl,rfl,some (iV pt.var),some (iV pt.value),?_⟩;have e2:((Tl.putN sz (x.change.take i):Nat):Int)+((2 ^ Tl.ix sz pt.var pt.value:Nat):Int)=((Tl.putN sz (x.change.take (i+1)):Nat):Int):=by
    rw[Tl.ZlR sz hpi];push_cast;rfl
   show[some (V.ref lb),some (V.ref p),some (iV kn),some (iV m),some (V.int (((Tl.Zbc sz (x.change.take i):Nat):Int) - ((Tl.row sz pt.var kk).map fun(n:Nat)=>(n:Int)).sum)),some (V.int (((Tl.putN sz (x.change.take i):Nat):Int)+((2 ^ Tl.ix sz pt.var pt.value:Nat):Int))),some (iV pt.var),some (iV pt.value)]=_;rw[e,e2]
  ·rintro σ H' ⟨rfl,o6,o7,rfl⟩;rw[hlen,List.take_length];refine⟨_,rfl,_,rfl,_,rfl,p,Ad.CW,dp,_,_,rfl,s1 _ _ g1,CW.cl,CW.no _ (by decide +kernel),Zmy ..,lb,vc,sz,x.cond,rfl,hB.same s1,g3.same s1,hc,_,rfl,_,_,rfl,rfl,_,rfl,_,rfl,_,rfl,by show 5<=sizeLine;decide,fun q hq=>?_⟩;refine k q _ (s1.trans (Zq hq)) (s1.free hq) ?_;rw[Zd];unfold ZgA;have e:((Tl.ZM sz x.cond:Nat):Int)+((m:Nat):Int)=((Tl.ZM sz x.cond+m:Nat):Int):=by push_cast;rfl
   try dsimp only
   rw[e]
end
def Zc6(F:Hp)(p:Addr)(sz:List Nat)(ws:List Kgf1.When):Prop:=∃mrefs,F p=some (.lst mrefs)/\mrefs.length=ws.length/\∀(k:Nat)(x:Kgf1.When),ws[k]?=some x->∃q,mrefs[k]?=some (.ref q)/\F q=some (.tup (ZgA sz k (2 ^ (Tl.off sz sz.length+Tl.mix (ws.map Kgf1.When.words) x.words)) x))
theorem Zc6.same{F F':Hp}{p:Addr}{sz:List Nat}{ws:List Kgf1.When}(s:Zc F F')(h:Zc6 F p sz ws):Zc6 F' p sz ws:=by
 obtain⟨m,h1,h2,h3⟩:=h;refine⟨m,s _ _ h1,h2,fun k x hx=>?_⟩;obtain⟨q,e1,e2⟩:=h3 k x hx;exact⟨q,e1,s _ _ e2⟩
structure ZnG(sz:List Nat)(x:Kgf1.When):Prop where
 c:Tl.Fits sz x.cond
 d:Tl.Fits sz x.change
 n:(x.change.map Kgf1.Part.var).Nodup
section
def ZnH(Ad:Ads):Sp:=fun vs H Q _=>∃(lb lw:Addr)(sz:List Nat)(refs:List V)(ws:List Kgf1.When),vs=[.ref lb,.ref lw]/\ZaL H lb sz/\Zc4 sz/\H lw=some (.lst refs)/\Paired (Zbf Ad.CW H) refs ws/\ws.length<=128/\(∀x∈ws,ZnG sz x)/\∀p H',Zc H H'->Zc6 H' p sz ws->Q (.ref p) H'
theorem Zfa:Zo ["bits","whens","marks","number","when"] ["bits","whens"] (Zi Zgz):=⟨rfl,rfl,rfl,by decide +kernel,rfl,by decide +kernel,by decide +kernel⟩
def ZuF:Scope:={ kind:=.function,names:=[(".0",.local),("number",.local),("when",.local),("move_of",.globalImplicit),("bits",.free),("marks",.free)],isGenerator:=false,isCoroutine:=false }
theorem ZuG:ZaT ["bits","whens","marks","number","when"] (Zi Zgz) ZuF [("number",3),("when",4)]:=⟨rfl,by decide +kernel,by decide +kernel,by decide +kernel,by decide +kernel⟩
theorem ZuH(D:Zj K mg "moves_of" Zgz f)(henum:mg "enumerate"=none)(F1:Can P w K mg base CX0 1 "every_bit" ["bits"] Zjj)(F2:Can P w K mg base CX0 1 "marks_of" ["whens","lowest"] (ZnF Ad))(F3:Can P w K mg base CX0 2 "move_of" ["bits","when","number","mark"] (Zjo Ad)) :
  Can P w K mg base CX0 3 "moves_of" ["bits","whens"] (ZnH Ad):=by
 refine D.can Zfa (fun _ _ _ _ _ _ us hl=>match us,hl with|[_,_],_=>rfl) (fun vs H Q E h=>?_) (fun cdv A outer s H vs Q E hr h=>?_)
 ·obtain⟨lb,lw,sz,refs,ws,rfl,_⟩:=h;rfl
 ·obtain⟨lb,lw,sz,refs,ws,rfl,hB,hz,hl,hp,hw,hf,k⟩:=h;have big:sizeLine=16777216:=by decide
  have hlen:=Z2 hp;refine⟨_,Ze (Zx (i:=2) Zfa.nd rfl (Or.inr rfl) (Zp F2 hr Zs (Za (pv 1) (Za (ZY ZbD (Zp F1 hr Zs (Za (pv 0) Zb)) Zr) Zb))))
   (Zh (Zm (Zbr (own:=[("number",3),("when",4)]) (g:=Zdf K 2 (Zbn (ZaP 3) (Zbn (ZaP 4) Zde))) (tt:=ZaU) (te:=Zb7 (Zjo Ad) [] E0 (ZU (ZH 0) (ZU (ZH 4) (ZU (ZH 3) (ZU (tOp (Zdl K) (ZH 2) (ZH 3)) Zaf))))) rfl Zfa.nd (ZeN (by rfl) henum (Za (pv 1) Zb)) ZuG
    (fun _ _ _ _ _=>ZbA rfl (Zal (ZL (i:=3) Zfa.nd rfl (Or.inl rfl) (Or.inr rfl)) (Zal (ZL (i:=4) Zfa.nd rfl (Or.inl rfl) (Or.inr rfl)) Zbz))) (fun _ _ _ _ _=>Zb9)
    (fun _ _ _ _ _=>Zp F3 hr Zs (Za (pv 0) (Za (pv 4) (Za (pv 3) (Za (ZG ZO (pv 2) (pv 3) (fun _ _=>rfl)) Zb)))))))),?_⟩
  refine⟨_,rfl,_,rfl,lb,sz,rfl,hB,hz,fun H1 s1=>?_⟩;refine⟨_,_,rfl,rfl,lw,Tl.off sz sz.length,refs,ws,?_,s1 _ _ hl,Paired.ZP hp fun _ _ z=>z.same s1,hw,fun lm H2 s2 hlm=>?_⟩
  ·have e:((((Tl.rows sz).map List.sum).sum:Nat):Int)+1=((2 ^ Tl.off sz sz.length:Nat):Int):=by
    rw[←Tl.ZrP];push_cast;rfl
   show[V.ref lw,V.int (((((Tl.rows sz).map List.sum).sum:Nat):Int)+1)]=_;rw[e]
  have s12:=s1.trans s2;refine⟨_,rfl,lw,_,rfl,SqL.of (s12 _ _ hl),fun Dl hD=>?_⟩;refine Zep (n:=ws.length) (fun i H3=>Zc H2 H3/\i<=128/\∃mrefs,H3 Dl=some (.lst mrefs)/\mrefs.length=i/\∀(j:Nat)(x:Kgf1.When),j < i->ws[j]?=some x->∃q,mrefs[j]?=some (.ref q)/\q≠Dl/\H3 q=some (.tup (ZgA sz j (2 ^ (Tl.off sz sz.length+Tl.mix (ws.map Kgf1.When.words) x.words)) x)))
   ⟨Zq hD,by omega,[],Zd,rfl,fun j x h=>absurd h (Nat.not_lt_zero _)⟩ ?_ ?_ ?_ ?_
  ·rintro i H3 hi ⟨s3,_⟩;exact⟨_,_,SqL.of (s3 _ _ (s12 _ _ hl)),List.getElem?_eq_getElem (by rw[hlen];exact hi)⟩
  ·rintro H3 ⟨s3,_⟩;exact⟨_,SqL.of (s3 _ _ (s12 _ _ hl)),by rw[hlen];exact Nat.le_refl _⟩
  ·rintro i H3 y H4 hi ⟨s3,hi2,mrefs,hm1,hm2,hm3⟩ ⟨T,b,rfl,hT,rfl,hb⟩;have eb:=hb _ (SqL.of (s3 _ _ (s12 _ _ hl)));obtain⟨x,hx,hxa⟩:=ZaC hp eb;have s4:Zc H3 (upd H3 T (.tup [.int (i:Nat),b])):=Zq hT;have hmk:((ZdF (Tl.off sz sz.length) ws).map iV)[i]?=some (iV (2 ^ (Tl.off sz sz.length+Tl.mix (ws.map Kgf1.When.words) x.words))):=Zbe (by unfold ZdF;rw[List.getElem?_map,hx];rfl);have hfx:=hf x (List.mem_of_getElem? hx);have s24:Zc H2 (upd H3 T (.tup [.int (i:Nat),b])):=s3.trans s4;refine⟨T,_,rfl,SqT.of Zd,rfl,_,_,rfl,_,_,rfl,rfl,rfl,?_⟩;simp only[ZaU,if_true];refine⟨_,rfl,_,rfl,_,rfl,_,rfl,_,rfl,lm,_,_,_,rfl,rfl,SqL.of (s24 _ _ hlm),ZF hmk,lb,b,i,_,sz,x,rfl,hB.same (s12.trans s24),hz,hxa.same (s12.trans s24),hfx.c,hfx.d,hfx.n,fun q H5 s5 hq0 hq=>?_⟩;have hqD:q≠Dl:=(Zk (s4 _ _ hm1) hq0).symm;refine⟨mrefs,s5 _ _ (s4 _ _ hm1),by omega,fun a u e=>?_,by omega,mrefs++[.ref q],Zd,by rw[List.length_append];show _+1=_;omega,fun j x' hj hx'=>?_⟩
   ·rw[Zf (Zk e hD)];exact s5 _ _ (s24 _ _ e)
   ·by_cases e:j=i
    ·subst e;rw[hx] at hx';cases hx';refine⟨q,by rw[List.getElem?_append_right (by omega),hm2];simp,hqD,?_⟩;rw[Zf hqD];exact hq
    ·obtain⟨q',e1,e2,e3⟩:=hm3 j x' (by omega) hx';refine⟨q',by rw[List.getElem?_append_left (by omega)];exact e1,e2,?_⟩;rw[Zf e2];exact s5 _ _ (s4 _ _ e3)
  ·rintro H3 ⟨s3,_,mrefs,hm1,hm2,hm3⟩;refine k Dl H3 (s12.trans s3) ⟨mrefs,hm1,hm2,fun j x hx=>?_⟩;obtain⟨q,e1,_,e3⟩:=hm3 j x (List.getElem?_eq_some_iff.mp hx).1 hx;exact⟨q,e1,e3⟩
end
abbrev ZdH:List Str:=["bits","first","wons","losts","moves"]
def Zc7(b x o l m:V):List (Str×V):=[("bits",b),("first",x),("wons",o),("losts",l),("moves",m)]
section
variable(b x o l m:V)
theorem Zjp:(Zc7 b x o l m).lookup ("bits":Str)=some b:=Zaa
theorem ZuI:(Zc7 b x o l m).lookup ("first":Str)=some x:=(ZA (by decide +kernel)).trans Zaa
theorem ZuJ:(Zc7 b x o l m).lookup ("wons":Str)=some o:=(ZA (by decide +kernel)).trans ((ZA (by decide +kernel)).trans Zaa)
theorem ZuK:(Zc7 b x o l m).lookup ("losts":Str)=some l:=(ZA (by decide +kernel)).trans ((ZA (by decide +kernel)).trans ((ZA (by decide +kernel)).trans Zaa))
theorem ZuL:(Zc7 b x o l m).lookup ("moves":Str)=some m:=(ZA (by decide +kernel)).trans ((ZA (by decide +kernel)).trans ((ZA (by decide +kernel)).trans ((ZA (by decide +kernel)).trans Zaa)))
end
structure Bds where
 pk:Addr
 re:Addr
 pl:Addr
 ou:Addr
structure Za2(t:Kgf1.Tale):Prop where
 ft:Tl.Zch t
 ok:Kgf1.okTale t=true
theorem Za2.sz{t:Kgf1.Tale}(h:Za2 t):Zc4 (Tl.Zg t):=Zuh h.ft (Zck.mp h.ok).1.2
theorem Za2.wf{t:Kgf1.Tale}(h:Za2 t):∀x∈t.whens,ZnG (Tl.Zg t) x:=fun x hx=>⟨(h.ft.wc x hx).1,(h.ft.wc x hx).2.1,Tl.Zr9 (h.ft.wc x hx).2.2.1⟩
def Zb0(Bd:Bds)(F:Hp)(pa:Addr)(t:Kgf1.Tale):Prop:=∃dx lb lo ll lm,F pa=some (.ins Bd.pk dx (Zc7 (.ref lb) (iV (Tl.pk (Tl.Zg t) (Kgf1.first t))) (.ref lo) (.ref ll) (.ref lm)))/\ZaL F lb (Tl.Zg t) /\
 F lo=some (.lst ((t.wons.map (Tl.ZM (Tl.Zg t))).map iV))/\F ll=some (.lst ((t.losts.map (Tl.ZM (Tl.Zg t))).map iV))/\Zc6 F lm (Tl.Zg t) t.whens
theorem Zb0.same{Bd:Bds}{F F':Hp}{pa:Addr}{t:Kgf1.Tale}(s:Zc F F')(h:Zb0 Bd F pa t):Zb0 Bd F' pa t:=by
 obtain⟨dx,lb,lo,ll,lm,h1,h2,h3,h4,h5⟩:=h;exact⟨dx,lb,lo,ll,lm,s _ _ h1,h2.same s,s _ _ h3,s _ _ h4,h5.same s⟩
abbrev Zjq:Stmt:=top 78
abbrev Zjr:Stmt:=top 79
def ZaD(sz:List Nat)(l:List (Kgf1.St×Nat)):List (Key×V):=l.map fun y=>((Sum.inl ((Tl.pk sz y.1:Nat):Int):Key),iV y.2)
theorem Zjs{sz:List Nat}{l:List (Kgf1.St×Nat)}{x:Kgf1.St}(h:∀y∈l,Tl.Ok sz y.1)(hx:Tl.Ok sz x):(Zab (ZaD sz l) (Sum.inl ((Tl.pk sz x:Nat):Int))).isSome=decide (x∈l.map Prod.fst):=by
 induction l with
 |nil=>rfl
 |cons y l ih =>
  have ih:=ih fun z hz=>h z (List.mem_cons_of_mem _ hz);unfold ZaD at ih ⊢;rw[List.map_cons];by_cases e:y.1=x
  ·rw[Zdp (by rw[e])];simp[e]
  ·rw[Zdq fun z=>e (Tl.ZlK (h y List.mem_cons_self) hx (by have:=Sum.inl.inj z;omega)),ih];simp[Ne.symm e]
theorem ZuM{sz:List Nat}{l:List (Kgf1.St×Nat)}{x:Kgf1.St}{k:Nat}(h:∀y∈l,Tl.Ok sz y.1)(hx:Tl.Ok sz x)(hn:x∉l.map Prod.fst):putK (ZaD sz l) (Sum.inl ((Tl.pk sz x:Nat):Int)) (iV k)=ZaD sz (l++[(x,k)]):=by
 unfold putK;rw[ZdZ,Zjs h hx,if_neg (by rw[decide_eq_true_eq];exact hn)];unfold ZaD;rw[List.map_append];rfl
section
variable{Bd:Bds}
def ZnI(Bd:Bds):Sp:=fun vs H Q _=>∃(pa:Addr)(t:Kgf1.Tale)(st:Kgf1.St),vs=[.ref pa,iV (Tl.pk (Tl.Zg t) st)]/\Zb0 Bd H pa t/\Za2 t/\Tl.Ok (Tl.Zg t) st/\Q (iV (Kgf1.status t st)) H
theorem Zjt:Zo ["packed","state","barred"] ["packed","state"] (Zi Zjq):=⟨rfl,rfl,rfl,by decide +kernel,rfl,by decide +kernel,by decide +kernel⟩
theorem ZnJ{α:Type}{p:α->Bool}{l:List α}{i:Nat}{x:α}(h:l[i]?=some x)(hp:p x=true):l.any p=true:=List.any_eq_true.mpr ⟨x,List.mem_of_getElem? h,hp⟩
theorem ZuN(D:Zj K mg "status_in" Zjq f)(CK:Zv K Bd.pk ZdH)(hL:GI mg "LOST" 2)(hW:GI mg "WON" 1)(hG:GI mg "GOES_ON" 0):Can P w K mg base CX0 1 "status_in" ["packed","state"] (ZnI Bd):=by
 refine D.can Zjt (fun _ _ _ _ _ _ us hl=>match us,hl with|[_,_],_=>rfl) (fun vs H Q E h=>?_) (fun cdv A outer s H vs Q E hr h=>?_)
 ·obtain⟨pa,t,st,rfl,_⟩:=h;rfl
 ·obtain⟨pa,t,st,rfl,hP,hg,hok,k⟩:=h;obtain⟨dx,lb,lo,ll,lm,h1,h2,h3,h4,h5⟩:=hP;rw[←Tl.ZrM hok hg.ft.oc hg.ft.lc] at k;unfold Tl.stB at k;refine⟨_,Ze (Za1 PassesOwn.never rfl (Zaw (Zl (pv 0) rfl)) (ZL (i:=2) Zjt.nd rfl (Or.inl rfl)) (Zh (Zy (ZC Z9 (ZY ZeE (pv 1) (pv 2)) Zr (Zz _)) (Zh (Zm (Zu hL))) ZD)))
   (Ze (Za1 PassesOwn.never rfl (Zaw (Zl (pv 0) rfl)) (ZL (i:=2) Zjt.nd rfl (Or.inl rfl)) (Zh (Zy (ZC Z9 (ZY ZeE (pv 1) (pv 2)) Zr (Zz _)) (Zh (Zm (Zu hW))) ZD)))
   (Zh (Zm (Zu hG)))),?_⟩
  have tst:∀(x y:Nat),(V.int (Builtin.bitAnd ((x:Nat):Int) ((y:Nat):Int))=V.int 0)↔x &&& y=0:=fun x y=>by
   rw[Ze8];constructor
   ·intro z;have:=V.int.inj z;omega
   ·intro z;rw[z];rfl
  have item:∀{cs:List Kgf1.Cond}{i:Nat}{v:V},((cs.map (Tl.ZM (Tl.Zg t))).map iV)[i]?=some v->∃c,cs[i]?=some c/\v=iV (Tl.ZM (Tl.Zg t) c):=fun{cs i v} h=>by
   rw[List.getElem?_map,List.getElem?_map] at h;cases e:cs[i]? with
   |none=>rw[e] at h;cases h
   |some c=>rw[e] at h;exact⟨c,rfl,(Option.some.inj h).symm⟩
  refine⟨_,rfl,pa,Bd.pk,dx,_,_,rfl,h1,CK.cl,CK.no _ (by decide +kernel),ZuK ..,ll,rfl,⟨_,SqL.of h4⟩,Za9 (K:=K) (a:=ll) (xs:=(t.losts.map (Tl.ZM (Tl.Zg t))).map iV) (fun i σ H'=>H'=H/\(∃o2,σ=[some (.ref pa),some (iV (Tl.pk (Tl.Zg t) st)),o2])/\∀c∈t.losts.take i,decide (Tl.pk (Tl.Zg t) st &&& Tl.ZM (Tl.Zg t) c=0)=false) ⟨rfl,⟨none,rfl⟩,by simp⟩ (fun i σ H' _ ⟨e,_⟩=>by rw[e];exact SqL.of h4) ?_ ?_⟩
  ·rintro i x σ H' hx ⟨rfl,⟨o2,rfl⟩,hh⟩;obtain⟨c,hc,rfl⟩:=item hx;refine⟨_,rfl,_,rfl,_,_,rfl,rfl,rfl,_,rfl,?_⟩;by_cases hq:Tl.pk (Tl.Zg t) st &&& Tl.ZM (Tl.Zg t) c=0
   ·refine ifD ((tst _ _).mpr hq) ?_;rw[ZnJ (p:=fun c=>decide (Tl.pk (Tl.Zg t) st &&& Tl.ZM (Tl.Zg t) c=0)) hc (decide_eq_true hq),if_pos rfl] at k;exact k
   ·refine ifN (fun z=>hq ((tst _ _).mp z)) ⟨rfl,⟨_,rfl⟩,fun y hy=>?_⟩;rw[List.take_add_one,hc] at hy;rcases List.mem_append.mp hy with z|z
    ·exact hh y z
    ·have:y=c:=by simpa using z
     rw[this];exact decide_eq_false hq
  ·rintro σ H' ⟨rfl,⟨o2,rfl⟩,hh⟩;rw[List.length_map,List.length_map,List.take_length] at hh;have e1:t.losts.any (fun c=>decide (Tl.pk (Tl.Zg t) st &&& Tl.ZM (Tl.Zg t) c=0))=false:=List.any_eq_false.mpr fun c hc=>by rw[hh c hc];decide
   rw[e1,if_neg (by decide)] at k;refine⟨_,rfl,pa,Bd.pk,dx,_,_,rfl,h1,CK.cl,CK.no _ (by decide +kernel),ZuJ ..,lo,rfl,⟨_,SqL.of h3⟩,Za9 (K:=K) (a:=lo) (xs:=(t.wons.map (Tl.ZM (Tl.Zg t))).map iV) (fun i σ H2=>H2=H'/\(∃o2,σ=[some (.ref pa),some (iV (Tl.pk (Tl.Zg t) st)),o2])/\∀c∈t.wons.take i,decide (Tl.pk (Tl.Zg t) st &&& Tl.ZM (Tl.Zg t) c=0)=false) ⟨rfl,⟨_,rfl⟩,by simp⟩ (fun i σ H' _ ⟨e,_⟩=>by rw[e];exact SqL.of h3) ?_ ?_⟩
   ·rintro i x σ H2 hx ⟨rfl,⟨o2,rfl⟩,hh⟩;obtain⟨c,hc,rfl⟩:=item hx;refine⟨_,rfl,_,rfl,_,_,rfl,rfl,rfl,_,rfl,?_⟩;by_cases hq:Tl.pk (Tl.Zg t) st &&& Tl.ZM (Tl.Zg t) c=0
    ·refine ifD ((tst _ _).mpr hq) ?_;rw[ZnJ (p:=fun c=>decide (Tl.pk (Tl.Zg t) st &&& Tl.ZM (Tl.Zg t) c=0)) hc (decide_eq_true hq),if_pos rfl] at k;exact k
    ·refine ifN (fun z=>hq ((tst _ _).mp z)) ⟨rfl,⟨_,rfl⟩,fun y hy=>?_⟩;rw[List.take_add_one,hc] at hy;rcases List.mem_append.mp hy with z|z
     ·exact hh y z
     ·have:y=c:=by simpa using z
      rw[this];exact decide_eq_false hq
   ·rintro σ H2 ⟨rfl,_,hh⟩;rw[List.length_map,List.length_map,List.take_length] at hh;have e2:t.wons.any (fun c=>decide (Tl.pk (Tl.Zg t) st &&& Tl.ZM (Tl.Zg t) c=0))=false:=List.any_eq_false.mpr fun c hc=>by rw[hh c hc];decide
    rw[e2,if_neg (by decide)] at k;exact k
def Zju(Bd:Bds):Sp:=fun vs H Q _=>∃(pa:Addr)(t:Kgf1.Tale)(st:Kgf1.St),vs=[.ref pa,iV (Tl.pk (Tl.Zg t) st)]/\Zb0 Bd H pa t/\Za2 t/\Tl.Ok (Tl.Zg t) st/\∀d,H d=none->Q (.ref d) (upd H d (.dK (ZaD (Tl.Zg t) (Tl.ZI t st t.whens.length))))
theorem ZcB:Zo ["packed","state","turns","marked","number","barred","kept","put","mark"] ["packed","state"] (Zi Zjr):=⟨rfl,rfl,rfl,by decide +kernel,rfl,by decide +kernel,by decide +kernel⟩
theorem ZuO(D:Zj K mg "turns_from" Zjr f)(CK:Zv K Bd.pk ZdH):Can P w K mg base CX0 1 "turns_from" ["packed","state"] (Zju Bd):=by
 refine D.can ZcB (fun _ _ _ _ _ _ us hl=>match us,hl with|[_,_],_=>rfl) (fun vs H Q E h=>?_) (fun cdv A outer s H vs Q E hr h=>?_)
 ·obtain⟨pa,t,st,rfl,_⟩:=h;rfl
 ·obtain⟨pa,t,st,rfl,hP,hg,hok,k⟩:=h;obtain⟨dx,lb,lo,ll,lm,h1,h2,h3,h4,mrefs,m1,m2,m3⟩:=hP;have big:sizeLine=16777216:=by decide
  have hw128:t.whens.length<=128:=(Zck.mp hg.ok).2.1.2;have hfit:∀x∈t.whens,Tl.Fits (Tl.Zg t) x.change:=fun x hx=>(hg.wf x hx).d;refine⟨_,Ze (Zx (i:=2) ZcB.nd rfl (Or.inl rfl) ZfG) (Ze (Zx (i:=3) ZcB.nd rfl (Or.inl rfl) (pv 1))
   (Ze (Za1 PassesOwn.never rfl (Zaw (Zl (pv 0) rfl)) (ZbA rfl (Zal (ZL (i:=4) ZcB.nd rfl (Or.inl rfl)) (Zal (ZL (i:=5) ZcB.nd rfl (Or.inl rfl)) (Zal (ZL (i:=6) ZcB.nd rfl (Or.inl rfl)) (Zal (ZL (i:=7) ZcB.nd rfl (Or.inl rfl)) (Zal (ZL (i:=8) ZcB.nd rfl (Or.inl rfl)) Zbz))))))
    (Zh (Zy (ZC Z9 (ZY ZeE (pv 3) (pv 5)) Zr (Zz _))
     (Ze (ZbP (i:=3) ZcB.nd rfl (Or.inl rfl) (pv 8) Znx)
     (Zh (ZK (Zsp (pv 2) (ZY Zo4 (ZY ZeE (pv 1) (pv 6)) (pv 7)) (pv 4) ⟨rfl,rfl,rfl,rfl⟩)))) ZD)))
   (Zh (Zm (pv 2))))),?_⟩
  intro d hd;have g0:∀o,Zc H (upd H d o):=fun o=>Zq hd;refine⟨_,rfl,_,rfl,pa,Bd.pk,dx,_,_,rfl,g0 _ _ _ h1,CK.cl,CK.no _ (by decide +kernel),ZuL ..,lm,rfl,⟨_,SqL.of (g0 _ _ _ m1)⟩,Za9 (K:=K) (a:=lm) (xs:=mrefs) (fun i σ H'=>H'=upd H d (.dK (ZaD (Tl.Zg t) (Tl.ZI t st i)))/\∃mk o4 o5 o6 o7 o8,Tl.ZbH (Tl.Zg t) t st i mk/\σ=[some (.ref pa),some (iV (Tl.pk (Tl.Zg t) st)),some (.ref d),some (iV mk),o4,o5,o6,o7,o8])
   ⟨rfl,_,none,none,none,none,none,Tl.ZbH.start _ _ _,rfl⟩ (fun i σ H' _ ⟨e,_⟩=>by rw[e];exact SqL.of (g0 _ _ _ m1)) ?_ ?_⟩
  ·rintro i y σ H' hy ⟨rfl,mk,o4,o5,o6,o7,o8,hmk,rfl⟩;have hil:i < t.whens.length:=by rw[←m2];exact(List.getElem?_eq_some_iff.mp hy).1
   obtain⟨x,hx⟩:∃x,t.whens[i]?=some x:=⟨_,List.getElem?_eq_getElem hil⟩
   obtain⟨q,e1,e2⟩:=m3 i x hx;rw[hy] at e1;cases e1;have hwf:=hg.wf x (List.mem_of_getElem? hx);have htest:=hmk.test hok hx hwf.c;refine⟨q,_,rfl,SqT.of (g0 _ _ _ e2),rfl,_,_,rfl,_,_,rfl,_,_,rfl,_,_,rfl,_,_,rfl,rfl,?_⟩;refine⟨_,rfl,_,rfl,_,_,rfl,rfl,rfl,_,rfl,?_⟩;have tst:(V.int (Builtin.bitAnd ((mk:Nat):Int) ((Tl.ZM (Tl.Zg t) x.cond+Tl.ZbU (Tl.Zg t) t x:Nat):Int))=V.int 0)↔Kgf2.does t st i=true:=by
    rw[Ze8,←htest];constructor
    ·intro z;have:=V.int.inj z;omega
    ·intro z;rw[z];rfl
   cases hd':Kgf2.does t st i with
   |false =>
    refine ifN (fun z=>by have:=tst.mp z;rw[hd'] at this;cases this) ⟨?_,mk,_,_,_,_,_,hmk.no hx hd',rfl⟩;rw[Tl.Zdw hd']
   |true =>
    have okb:Tl.Ok (Tl.Zg t) (Kgf1.changed st x.change):=Tl.ZfT hok hwf.d;have allok:=Tl.Zec hfit hok i;have hln:(ZaD (Tl.Zg t) (Tl.ZI t st i)).length < sizeLine:=by
     unfold ZaD;rw[List.length_map];have:=Tl.ZhR t st i;omega
    have eb:Builtin.bitOr (Builtin.bitAnd ((Tl.pk (Tl.Zg t) st:Nat):Int) ((Tl.Zbc (Tl.Zg t) x.change:Nat):Int)) ((Tl.putN (Tl.Zg t) x.change:Nat):Int)=((Tl.pk (Tl.Zg t) (Kgf1.changed st x.change):Nat):Int):=by
     rw[Ze8,Zjf,Tl.ZrO hok hwf.d hwf.n]
    have emk:iV (mk ||| Tl.ZbU (Tl.Zg t) t x)=V.int (Builtin.bitOr ((mk:Nat):Int) ((Tl.ZbU (Tl.Zg t) t x:Nat):Int)):=congrArg V.int (Zjf _ _).symm;refine ifD (tst.mpr hd') ⟨_,rfl,_,rfl,_,_,rfl,rfl,?_⟩;refine⟨_,rfl,d,rfl,.inl ⟨_,.inl Zd⟩,_,rfl,_,rfl,_,_,rfl,rfl,_,rfl,_,_,rfl,rfl,_,rfl,ZaD (Tl.Zg t) (Tl.ZI t st i),Sum.inl ((Tl.pk (Tl.Zg t) (Kgf1.changed st x.change):Nat):Int),Zd,?_,hln,fun v hv=>?_,fun hv=>?_⟩
    ·show V.int _=V.int _;rw[←eb]
    ·have hin:Kgf1.changed st x.change∈(Tl.ZI t st i).map Prod.fst:=by
      have:=Zjs allok okb;rw[hv] at this;exact of_decide_eq_true this.symm
     refine⟨?_,mk ||| Tl.ZbU (Tl.Zg t) t x,some (iV i),some (iV (Tl.ZM (Tl.Zg t) x.cond+Tl.ZbU (Tl.Zg t) t x)),some (iV (Tl.Zbc (Tl.Zg t) x.change)),some (iV (Tl.putN (Tl.Zg t) x.change)),some (iV (Tl.ZbU (Tl.Zg t) t x)),hmk.yes hx hd',?_⟩
     ·rw[Tl.ZcV hx hd'];unfold Tl.ZbI;rw[if_pos hin]
     ·rw[emk];rfl
    ·have hnin:Kgf1.changed st x.change∉(Tl.ZI t st i).map Prod.fst:=by
      have:=Zjs allok okb;rw[hv] at this;exact of_decide_eq_false this.symm
     refine⟨?_,mk ||| Tl.ZbU (Tl.Zg t) t x,some (iV i),some (iV (Tl.ZM (Tl.Zg t) x.cond+Tl.ZbU (Tl.Zg t) t x)),some (iV (Tl.Zbc (Tl.Zg t) x.change)),some (iV (Tl.putN (Tl.Zg t) x.change)),some (iV (Tl.ZbU (Tl.Zg t) t x)),hmk.yes hx hd',?_⟩
     ·rw[Z5,ZuM allok okb hnin,Tl.ZcV hx hd'];unfold Tl.ZbI;rw[if_neg hnin]
     ·rw[emk];rfl
  ·rintro σ H' ⟨rfl,mk,o4,o5,o6,o7,o8,_,rfl⟩;rw[m2];exact⟨_,rfl,k d hd⟩
end
variable{Bd:Bds}
theorem Za2.Zet{t:Kgf1.Tale}(h:Za2 t):Ze3 t:=by
 obtain⟨⟨_,a⟩,⟨_,b⟩,c,⟨_,d⟩,e⟩:=Zck.mp h.ok;have iv:∀{c:Kgf1.Cond},Tl.Fits (Tl.Zg t) c->ZbY t.vars.length c:=fun hf p hp=>by
  obtain⟨k,hk,_⟩:=hf p hp;have:=(List.getElem?_eq_some_iff.mp hk).1;rw[List.length_map] at this;exact this
 exact⟨a,b,c,d,e,fun x hx=>⟨iv (h.ft.wc x hx).1,iv (h.ft.wc x hx).2.1,(h.ft.wc x hx).2.2.2.1,by have:=(h.ft.wc x hx).2.2.2.2.1;omega⟩,fun x hx=>⟨iv (h.ft.sc x hx).1,(h.ft.sc x hx).2⟩,fun c hc=>iv (h.ft.oc c hc),fun c hc=>iv (h.ft.lc c hc)⟩
section
variable{F:Hp}{p C dx:Addr}{fs:List (Str×V)}
theorem Zag{l:Addr}{xs:List V}(hp:F p=some (.ins C dx fs))(h:F l=some (.lst xs)):hide p F l=some (.lst xs):=by
 rw[hide_ne (Z6 h hp (by intro z;cases z))];exact h
theorem ZaL.hide{lb:Addr}{sz:List Nat}(hp:F p=some (.ins C dx fs))(h:ZaL F lb sz):ZaL (hide p F) lb sz:=by
 obtain⟨refs,h1,h2⟩:=h;refine⟨refs,Zag hp h1,Paired.ZP h2 fun v r z=>?_⟩;obtain⟨l,e,hl⟩:=z;exact⟨l,e,Zag hp hl⟩
theorem Zc6.hide{lm:Addr}{sz:List Nat}{ws:List Kgf1.When}(hp:F p=some (.ins C dx fs))(h:Zc6 F lm sz ws):Zc6 (hide p F) lm sz ws:=by
 obtain⟨m,h1,h2,h3⟩:=h;refine⟨m,Zag hp h1,h2,fun k x hx=>?_⟩;obtain⟨q,e1,e2⟩:=h3 k x hx;refine⟨q,e1,?_⟩;rw[hide_ne (Z6 e2 hp (by intro z;cases z))];exact e2
end
theorem ZbN(p:Addr)(F:Hp)(o:HO):Zc (hide p F) (upd F p o):=fun b u e=>by
 have hb:b≠p:=fun z=>by rw[z,hide_self] at e;cases e
 rw[hide_ne hb] at e;rw[Zf hb];exact e
theorem ZdI{G F:Hp}{p:Addr}(s:Zc G F)(h:G p=none):Zc G (hide p F):=fun b u e=>by
 rw[hide_ne (Zk e h)];exact s _ _ e
theorem ZgB(b x o l m:V):Zw "bits" b []=[(("bits":Str),b)]/\Zw "first" x [(("bits":Str),b)]=[(("bits":Str),b),(("first":Str),x)]/\Zw "wons" o [(("bits":Str),b),(("first":Str),x)]=[(("bits":Str),b),(("first":Str),x),(("wons":Str),o)] /\
  Zw "losts" l [(("bits":Str),b),(("first":Str),x),(("wons":Str),o)]=[(("bits":Str),b),(("first":Str),x),(("wons":Str),o),(("losts":Str),l)]/\Zw "moves" m [(("bits":Str),b),(("first":Str),x),(("wons":Str),o),(("losts":Str),l)]=Zc7 b x o l m:=by
 refine⟨rfl,?_,?_,?_,?_⟩
 ·rw[ZE (by decide +kernel)];rfl
 ·rw[ZE (by decide +kernel),ZE (by decide +kernel)];rfl
 ·rw[ZE (by decide +kernel),ZE (by decide +kernel),ZE (by decide +kernel)];rfl
 ·rw[ZE (by decide +kernel),ZE (by decide +kernel),ZE (by decide +kernel),ZE (by decide +kernel)];rfl
abbrev ZgC:Stmt:=inClass (top 68) 0
section
def ZnK(Ad:Ads)(Bd:Bds):Sp:=fun vs H Q _=>∃(G:Hp)(p dx tl:Addr)(t:Kgf1.Tale),vs=[.ref p,.ref tl]/\Zc G H/\G p=none/\H p=some (.ins Bd.pk dx [])/\ZaN Ad G tl t/\Za2 t/\∀H',Zc G H'->Zb0 Bd H' p t->Q .non H'
theorem Zfb:Zo ["self","tale","condition"] ["self","tale"] (Zi ZgC):=⟨rfl,rfl,rfl,by decide +kernel,rfl,by decide +kernel,by decide +kernel⟩
def ZuP:Scope:={ kind:=.function,names:=[(".0",.local),("condition",.local),("barred_by",.globalImplicit),("self",.free)],isGenerator:=false,isCoroutine:=false }
theorem ZnL:ZaT ["self","tale","condition"] (Zi ZgC) ZuP [("condition",2)]:=⟨rfl,by decide +kernel,by decide +kernel,by decide +kernel,by decide +kernel⟩
theorem ZuQ(D:MethAt K Bd.pk "__init__" "Packed.__init__" ZgC f)(hm:mg "Packed"=some (.ref Bd.pk))(mk:PySem.W.makesIn K Bd.pk=true)(kc:PySem.W.keepIn K (.ref Bd.pk)=true)(CK:Zv K Bd.pk ZdH)(CT:Zv K Ad.CT Za8)
  (F1:Can P w K mg base CX0 1 "bits_of" ["tale"] (Znw Ad)) (F2:Can P w K mg base CX0 1 "packed_state" ["bits","numbers"] (Zjl K)) (F3:Can P w K mg base CX0 1 "first_state" ["tale"] (Zga Ad)) (F4:Can P w K mg base CX0 1 "barred_by" ["bits","condition"] Zer) (F5:Can P w K mg base CX0 3 "moves_of" ["bits","whens"] (ZnH Ad)) :
  ZaS P w K mg base CX0 4 "Packed" Bd.pk ["self","tale"] (ZnK Ad Bd):=by
 refine D.ZcX hm mk kc Zfb (fun _ _ _ _ _ _ us hl=>match us,hl with|[_,_],_=>rfl) (fun vs H Q E h=>?_) (fun cdv A outer s H vs Q E hr h=>?_)
 ·obtain⟨G,p,dx,tl,t,rfl,_⟩:=h;rfl
 ·obtain⟨G,p,dx,tl,t,rfl,gh,gp,hp,hT,hg,k⟩:=h;have big:sizeLine=16777216:=by decide
  have hz:=hg.sz;have hfn:=hg.Zet;refine⟨_,Ze (Z4 (pv 0) (Zp F1 hr Zs (Za (pv 1) Zb)) rfl)
   (Ze (Z4 (pv 0) (Zp F2 hr Zs (Za (Zl (pv 0) rfl) (Za (Zp F3 hr Zs (Za (pv 1) Zb)) Zb))) rfl)
   (Ze (Z4 (pv 0) (Zbr (own:=[("condition",2)]) (tt:=ZaU) (te:=Zb7 Zer [] E0 (ZU (Zbo K (ZH 0) "bits") (ZU (ZH 2) Zaf))) rfl Zfb.nd (Zaw (Zl (pv 1) rfl)) ZnL (fun _ _ _ _ _=>ZL (i:=2) Zfb.nd rfl (Or.inl rfl)) (fun _ _ _ _ _=>Zb9) (fun _ _ _ _ _=>Zp F4 hr Zs (Za (Zl (pv 0) rfl) (Za (pv 2) Zb)))) rfl)
   (Ze (Z4 (pv 0) (Zbr (own:=[("condition",2)]) (tt:=ZaU) (te:=Zb7 Zer [] E0 (ZU (Zbo K (ZH 0) "bits") (ZU (ZH 2) Zaf))) rfl Zfb.nd (Zaw (Zl (pv 1) rfl)) ZnL (fun _ _ _ _ _=>ZL (i:=2) Zfb.nd rfl (Or.inl rfl)) (fun _ _ _ _ _=>Zb9) (fun _ _ _ _ _=>Zp F4 hr Zs (Za (Zl (pv 0) rfl) (Za (pv 2) Zb)))) rfl)
   (Zh (Z4 (pv 0) (Zp F5 hr Zs (Za (Zl (pv 0) rfl) (Za (Zl (pv 1) rfl) Zb))) rfl))))),?_⟩
  obtain⟨tdx,tn,tc,tw,ts,to,tlo,crefs,wrefs,srefs,orefs,lrefs,t1,t2,t3,t4,t5,t6,t7,t8,t9,t10,t11⟩:=hT.at_.ex;refine⟨_,rfl,tl,t,rfl,hT.same gh,hz,fun lb H1 s1 hB1=>?_⟩;have p1:=s1 _ _ hp;obtain⟨pf1,pf2,pf3,pf4,pf5⟩:=ZgB (.ref lb) (iV (Tl.pk (Tl.Zg t) (Kgf1.first t))) (.ref 0) (.ref 0) (.ref 0);refine⟨_,rfl,p,Bd.pk,dx,_,rfl,p1,CK.cl,CK.no _ (by decide +kernel),(by show 0 < 1000;decide),?_⟩;rw[pf1];have g1:Zc G (hide p H1):=ZdI (gh.trans s1) gp;have hBg1:=hB1.hide p1;have s1':=ZbN p H1 (.ins Bd.pk dx [(("bits":Str),V.ref lb)]);have p1':upd H1 p (.ins Bd.pk dx [(("bits":Str),V.ref lb)]) p=some (.ins Bd.pk dx [(("bits":Str),V.ref lb)]):=Zd;generalize upd H1 p (.ins Bd.pk dx [(("bits":Str),V.ref lb)])=H1' at s1' p1';generalize hide p H1=G1 at g1 hBg1 s1';have hok0:=Tl.ZhZ hg.ft;refine⟨_,rfl,p,Bd.pk,dx,_,_,rfl,p1',CK.cl,CK.no _ (by decide +kernel),Zaa,_,rfl,tl,t,rfl,hT.at_.same (g1.trans s1'),hfn,fun lf H2 s2 _ hlf=>?_⟩;refine⟨lb,lf,Tl.Zg t,Kgf1.first t,rfl,hBg1.same (s1'.trans s2),SqL.of hlf,hz,by rw[List.take_of_length_le (by rw[hok0.len];exact Nat.le_refl _)];exact hok0,fun H3 s3=>?_⟩;have p3:=s3 _ _ (s2 _ _ p1');refine⟨_,rfl,p,Bd.pk,dx,_,rfl,p3,CK.cl,CK.no _ (by decide +kernel),(by show 1 < 1000;decide),?_⟩;rw[pf2];have gp1:∀{F:Hp},Zc G F->Zc G (hide p F):=fun z=>ZdI z gp;have g3:Zc G (hide p H3):=gp1 (((g1.trans s1').trans s2).trans s3);have hBg3:ZaL (hide p H3) lb (Tl.Zg t):=(hBg1.same ((s1'.trans s2).trans s3)).hide p3;have s3':=ZbN p H3 (.ins Bd.pk dx [(("bits":Str),V.ref lb),(("first":Str),iV (Tl.pk (Tl.Zg t) (Kgf1.first t)))]);have p3':upd H3 p (.ins Bd.pk dx [(("bits":Str),V.ref lb),(("first":Str),iV (Tl.pk (Tl.Zg t) (Kgf1.first t)))]) p=some (.ins Bd.pk dx [(("bits":Str),V.ref lb),(("first":Str),iV (Tl.pk (Tl.Zg t) (Kgf1.first t)))]):=Zd;generalize upd H3 p (.ins Bd.pk dx [(("bits":Str),V.ref lb),(("first":Str),iV (Tl.pk (Tl.Zg t) (Kgf1.first t)))])=H3' at s3' p3';have gp3:hide p H3 p=none:=hide_self _ _;generalize hide p H3=G3 at g3 hBg3 s3' gp3;have row:∀{F:Hp}{fs:List (Str×V)}{a:Addr}{rs:List V}{cs:List Kgf1.Cond}{Dl:Addr}{Qd:Hp->Prop},F p=some (.ins Bd.pk dx fs)->fs.lookup ("bits":Str)=some (V.ref lb)->ZaL F lb (Tl.Zg t)->F a=some (.lst rs)->Paired (Zaq F) rs cs->(∀c∈cs,Tl.Fits (Tl.Zg t) c)->cs.length<=16->F Dl=none ->
    Qd (upd F Dl (.lst ((cs.map (Tl.ZM (Tl.Zg t))).map iV)))->∃W:Nat->Nat->Hp->Prop,(∃m,W 0 m (upd F Dl (.lst [])))/\∀i m H,W i m H->((Itl K a).stop i H/\Qd H)\/((Itl K a).go i H/\∃Nx:Hp->Prop,(∀H',Nx H'->∃m',m' < m/\W (i+1) m' H')/\∀x H',(Itl K a).yld i H x H'->ZaP 2 x (wipe [some (.ref p),some (.ref tl),none] [2]) H' fun σ2 H2=>wipe σ2 [2]=wipe [some (.ref p),some (.ref tl),none] [2]/\ZaU σ2 H2 fun b H3 =>
     if b=true then Zb7 Zer [] E0 (ZU (Zbo K (ZH 0) "bits") (ZU (ZH 2) Zaf)) σ2 H3 fun y H4=>∃acc,H4 Dl=some (.lst acc)/\acc.length < sizeLine/\Nx (upd H4 Dl (.lst (acc++[y]))) else Nx H3):=by
   intro F fs a rs cs Dl Qd hF hlk hB ha hcs hft h16 hD hQ;have sD:∀o,Zc F (upd F Dl o):=fun o=>Zq hD;refine ZcN (K:=K) (a:=a) (xs:=rs) (fun i H'=>H'=upd F Dl (.lst (((cs.take i).map (Tl.ZM (Tl.Zg t))).map iV))/\i<=16) ⟨rfl,by omega⟩ (fun i H' _ e=>by rw[e.1];exact SqL.of (sD _ _ _ ha)) ?_ ?_
   ·rintro i x H' hx ⟨rfl,hi⟩;obtain⟨c,hc,hca⟩:=ZaC hcs hx;have hil:=(List.getElem?_eq_some_iff.mp hc).1;refine⟨rfl,?_⟩;simp only[ZaU,if_true];refine⟨_,rfl,p,Bd.pk,dx,_,_,rfl,sD _ _ _ hF,CK.cl,CK.no _ (by decide +kernel),hlk,_,rfl,lb,x,Tl.Zg t,c,rfl,hB.same (sD _),hca.same (sD _),hft c (List.mem_of_getElem? hc),_,Zd,?_,?_,by omega⟩
    ·rw[List.length_map,List.length_map,List.length_take];omega
    ·rw[Z5,List.take_add_one,hc,List.map_append,List.map_append];rfl
   ·rintro H' ⟨rfl,_⟩;rw[Z2 hcs,List.take_length];exact hQ
  have s3T:Zc G H3':=g3.trans s3';refine⟨_,rfl,tl,Ad.CT,tdx,_,_,rfl,s3T _ _ t1,CT.cl,CT.no _ (by decide +kernel),Zf8 ..,to,rfl,⟨_,SqL.of (s3T _ _ t8)⟩,fun Dw hDw=>?_⟩;refine row p3' Zaa (hBg3.same s3') (s3T _ _ t8) (Paired.ZP t9 fun _ _ z=>z.same s3T) hg.ft.oc hfn.wons hDw ?_;have s4:Zc H3' (upd H3' Dw (.lst ((t.wons.map (Tl.ZM (Tl.Zg t))).map iV))):=Zq hDw;have p4:=s4 _ _ p3';refine⟨_,rfl,p,Bd.pk,dx,_,rfl,p4,CK.cl,CK.no _ (by decide +kernel),(by show 2 < 1000;decide),?_⟩;obtain⟨_,_,pf3,_,_⟩:=ZgB (.ref lb) (iV (Tl.pk (Tl.Zg t) (Kgf1.first t))) (.ref Dw) (.ref 0) (.ref 0);rw[pf3];have hDw4:upd H3' Dw (.lst ((t.wons.map (Tl.ZM (Tl.Zg t))).map iV)) Dw=some (.lst ((t.wons.map (Tl.ZM (Tl.Zg t))).map iV)):=Zd;generalize upd H3' Dw (.lst ((t.wons.map (Tl.ZM (Tl.Zg t))).map iV))=H4 at s4 p4 hDw4;have g4:Zc G (hide p H4):=gp1 (s3T.trans s4);have hBg4:ZaL (hide p H4) lb (Tl.Zg t):=(hBg3.same (s3'.trans s4)).hide p4;have hDg4:=Zag p4 hDw4;have s4':=ZbN p H4 (.ins Bd.pk dx [(("bits":Str),V.ref lb),(("first":Str),iV (Tl.pk (Tl.Zg t) (Kgf1.first t))),(("wons":Str),V.ref Dw)]);have p4':upd H4 p (.ins Bd.pk dx [(("bits":Str),V.ref lb),(("first":Str),iV (Tl.pk (Tl.Zg t) (Kgf1.first t))),(("wons":Str),V.ref Dw)]) p=some (.ins Bd.pk dx [(("bits":Str),V.ref lb),(("first":Str),iV (Tl.pk (Tl.Zg t) (Kgf1.first t))),(("wons":Str),V.ref Dw)]):=Zd;generalize upd H4 p (.ins Bd.pk dx [(("bits":Str),V.ref lb),(("first":Str),iV (Tl.pk (Tl.Zg t) (Kgf1.first t))),(("wons":Str),V.ref Dw)])=H4' at s4' p4';generalize hide p H4=G4 at g4 hBg4 hDg4 s4';have s4T:Zc G H4':=g4.trans s4';refine⟨_,rfl,tl,Ad.CT,tdx,_,_,rfl,s4T _ _ t1,CT.cl,CT.no _ (by decide +kernel),Zf9 ..,tlo,rfl,⟨_,SqL.of (s4T _ _ t10)⟩,fun Dl hDl=>?_⟩;refine row p4' Zaa (hBg4.same s4') (s4T _ _ t10) (Paired.ZP t11 fun _ _ z=>z.same s4T) hg.ft.lc hfn.losts hDl ?_;have s5:Zc H4' (upd H4' Dl (.lst ((t.losts.map (Tl.ZM (Tl.Zg t))).map iV))):=Zq hDl;have p5:=s5 _ _ p4';refine⟨_,rfl,p,Bd.pk,dx,_,rfl,p5,CK.cl,CK.no _ (by decide +kernel),(by show 3 < 1000;decide),?_⟩;obtain⟨_,_,_,pf4,_⟩:=ZgB (.ref lb) (iV (Tl.pk (Tl.Zg t) (Kgf1.first t))) (.ref Dw) (.ref Dl) (.ref 0);rw[pf4];have hDl5:upd H4' Dl (.lst ((t.losts.map (Tl.ZM (Tl.Zg t))).map iV)) Dl=some (.lst ((t.losts.map (Tl.ZM (Tl.Zg t))).map iV)):=Zd;generalize upd H4' Dl (.lst ((t.losts.map (Tl.ZM (Tl.Zg t))).map iV))=H5 at s5 p5 hDl5;have g5:Zc G (hide p H5):=gp1 (s4T.trans s5);have hBg5:ZaL (hide p H5) lb (Tl.Zg t):=(hBg4.same (s4'.trans s5)).hide p5;have hDg5:=Zag p5 (s5 _ _ (s4' _ _ hDg4));have hLg5:=Zag p5 hDl5;have s5':=ZbN p H5 (.ins Bd.pk dx [(("bits":Str),V.ref lb),(("first":Str),iV (Tl.pk (Tl.Zg t) (Kgf1.first t))),(("wons":Str),V.ref Dw),(("losts":Str),V.ref Dl)]);have p5':upd H5 p (.ins Bd.pk dx [(("bits":Str),V.ref lb),(("first":Str),iV (Tl.pk (Tl.Zg t) (Kgf1.first t))),(("wons":Str),V.ref Dw),(("losts":Str),V.ref Dl)]) p=some (.ins Bd.pk dx [(("bits":Str),V.ref lb),(("first":Str),iV (Tl.pk (Tl.Zg t) (Kgf1.first t))),(("wons":Str),V.ref Dw),(("losts":Str),V.ref Dl)]):=Zd;generalize upd H5 p (.ins Bd.pk dx [(("bits":Str),V.ref lb),(("first":Str),iV (Tl.pk (Tl.Zg t) (Kgf1.first t))),(("wons":Str),V.ref Dw),(("losts":Str),V.ref Dl)])=H5' at s5' p5';generalize hide p H5=G5 at g5 hBg5 hDg5 hLg5 s5';have s5T:Zc G H5':=g5.trans s5';refine⟨_,rfl,p,Bd.pk,dx,_,_,rfl,p5',CK.cl,CK.no _ (by decide +kernel),Zaa,_,rfl,tl,Ad.CT,tdx,_,_,rfl,s5T _ _ t1,CT.cl,CT.no _ (by decide +kernel),Zf7 ..,lb,tw,Tl.Zg t,wrefs,t.whens,rfl,hBg5.same s5',hz,s5T _ _ t4,Paired.ZP t5 fun _ _ z=>z.same s5T,hfn.whens,hg.wf,fun lm H6 s6 hM=>?_⟩;have p6:=s6 _ _ p5';refine⟨_,rfl,p,Bd.pk,dx,_,rfl,p6,CK.cl,CK.no _ (by decide +kernel),(by show 4 < 1000;decide),?_⟩;obtain⟨_,_,_,_,pf5⟩:=ZgB (.ref lb) (iV (Tl.pk (Tl.Zg t) (Kgf1.first t))) (.ref Dw) (.ref Dl) (.ref lm);rw[pf5];have s6':=ZbN p H6 (.ins Bd.pk dx (Zc7 (.ref lb) (iV (Tl.pk (Tl.Zg t) (Kgf1.first t))) (.ref Dw) (.ref Dl) (.ref lm)));have q6:Zc G5 H6:=s5'.trans s6;refine k _ ((gp1 (s5T.trans s6)).trans s6') ⟨dx,lb,Dw,Dl,lm,Zd,((hBg5.same q6).hide p6).same s6',s6' _ _ (Zag p6 (q6 _ _ hDg5)),s6' _ _ (Zag p6 (q6 _ _ hLg5)),(hM.hide p6).same s6'⟩
end
abbrev reachF:List Str:=["packed","states","places","sources","statuses","far"]
def Zbh(p s l o u f:V):List (Str×V):=[("packed",p),("states",s),("places",l),("sources",o),("statuses",u),("far",f)]
section
variable(p s l o u f:V)
theorem ZdJ:(Zbh p s l o u f).lookup ("packed":Str)=some p:=Zaa
theorem ZdK:(Zbh p s l o u f).lookup ("states":Str)=some s:=(ZA (by decide +kernel)).trans Zaa
theorem Zfc:(Zbh p s l o u f).lookup ("places":Str)=some l:=(ZA (by decide +kernel)).trans ((ZA (by decide +kernel)).trans Zaa)
theorem Zjv:(Zbh p s l o u f).lookup ("sources":Str)=some o:=(ZA (by decide +kernel)).trans ((ZA (by decide +kernel)).trans ((ZA (by decide +kernel)).trans Zaa))
theorem Zfd:(Zbh p s l o u f).lookup ("statuses":Str)=some u:=(ZA (by decide +kernel)).trans ((ZA (by decide +kernel)).trans ((ZA (by decide +kernel)).trans ((ZA (by decide +kernel)).trans Zaa)))
theorem ZgD:(Zbh p s l o u f).lookup ("far":Str)=some f:=(ZA (by decide +kernel)).trans ((ZA (by decide +kernel)).trans ((ZA (by decide +kernel)).trans ((ZA (by decide +kernel)).trans ((ZA (by decide +kernel)).trans Zaa))))
theorem ZnM{m:Str}(h1:(m==("packed":Str))=false)(h2:(m==("states":Str))=false)(h3:(m==("places":Str))=false)(h4:(m==("sources":Str))=false)(h5:(m==("statuses":Str))=false)(h6:(m==("far":Str))=false):(Zbh p s l o u f).lookup m=none :=
 (ZA h1).trans ((ZA h2).trans ((ZA h3).trans ((ZA h4).trans ((ZA h5).trans (ZA h6)))))
theorem ZuR(g:V):Zw "far" g (Zbh p s l o u f)=Zbh p s l o u g:=by
 unfold Zbh;rw[ZE (by decide +kernel),ZE (by decide +kernel),ZE (by decide +kernel),ZE (by decide +kernel),ZE (by decide +kernel),Zel]
end
structure Rx where
 r:Addr
 dx:Addr
 pa:Addr
 st:Addr
 pl:Addr
 so:Addr
 ss:Addr
 fa:Addr
abbrev Rx.fs(X:Rx):List (Str×V):=Zbh (.ref X.pa) (.ref X.st) (.ref X.pl) (.ref X.so) (.ref X.ss) (.ref X.fa)
def Zbi(sz:List Nat)(l:List Kgf1.St):List (Key×V):=l.zipIdx.map fun y=>((Sum.inl ((Tl.pk sz y.1:Nat):Int):Key),iV y.2)
theorem ZuS(sz:List Nat)(l:List Kgf1.St):(Zbi sz l).length=l.length:=by unfold Zbi;rw[List.length_map,List.length_zipIdx]
theorem ZnN(sz:List Nat){x:Kgf1.St}(hx:Tl.Ok sz x):∀(l:List Kgf1.St)(k:Nat),(∀y∈l,Tl.Ok sz y)->Zab ((l.zipIdx k).map fun y=>((Sum.inl ((Tl.pk sz y.1:Nat):Int):Key),iV y.2)) (Sum.inl ((Tl.pk sz x:Nat):Int))=if x∈l then some (iV (l.idxOf x+k)) else none
 |[],_,_=>rfl
 |a::l,k,h=>by
  rw[List.zipIdx_cons,List.map_cons];by_cases e:a=x
  ·subst e;rw[Zdp rfl,if_pos List.mem_cons_self,List.idxOf_cons_self];simp
  ·rw[Zdq (fun z=>e (Tl.ZlK (h a List.mem_cons_self) hx (by have e2:((Tl.pk sz a:Nat):Int)=((Tl.pk sz x:Nat):Int):=Sum.inl.inj z;omega))),ZnN sz hx l (k+1) fun y hy=>h y (List.mem_cons_of_mem _ hy)];have hb:(a==x)=false:=by simpa using e
   have hm:x∈a::l↔x∈l:=by
    rw[List.mem_cons];exact⟨fun z=>z.elim (fun w=>absurd w.symm e) id,.inr⟩
   by_cases hw:x∈l
   ·rw[if_pos hw,if_pos (hm.mpr hw),List.idxOf_cons,hb];show some (iV (l.idxOf x+(k+1)))=some (iV (l.idxOf x+1+k));congr 2;omega
   ·rw[if_neg hw,if_neg (fun z=>hw (hm.mp z))]
theorem Zfe{sz:List Nat}{l:List Kgf1.St}{x:Kgf1.St}(h:∀y∈l,Tl.Ok sz y)(hx:Tl.Ok sz x):Zab (Zbi sz l) (Sum.inl ((Tl.pk sz x:Nat):Int))=if x∈l then some (iV (l.idxOf x)) else none:=ZnN sz hx l 0 h
theorem ZuT{sz:List Nat}{l:List Kgf1.St}{x:Kgf1.St}(h:∀y∈l,Tl.Ok sz y)(hx:Tl.Ok sz x)(hn:x∉l):putK (Zbi sz l) (Sum.inl ((Tl.pk sz x:Nat):Int)) (iV l.length)=Zbi sz (l++[x]):=by
 unfold putK;rw[ZdZ,Zfe h hx,if_neg hn];show Zbi sz l++[(_,_)]=_;unfold Zbi;rw[List.zipIdx_append,List.map_append];congr 1;simp
structure ZaA(Bd:Bds)(G H:Hp)(X:Rx)(t:Kgf1.Tale)(l:List Kgf1.St)(src:List (List Nat))(sts:List Nat):Prop where
 ob:H X.r=some (.ins Bd.re X.dx X.fs)
 pk:Zb0 Bd G X.pa t
 gh:Zc G H
 st:H X.st=some (.lst (l.map fun x=>iV (Tl.pk (Tl.Zg t) x)))
 pl:H X.pl=some (.dK (Zbi (Tl.Zg t) l))
 so:∃as:List Addr,H X.so=some (.lst (as.map V.ref))/\as.length=src.length/\as.Nodup/\(∀(i:Nat)(a:Addr)(r:List Nat),as[i]?=some a->src[i]?=some r->H a=some (.lst (r.map iV)))/\∀a∈as,G a=none/\a≠X.st/\a≠X.so/\a≠X.ss/\a≠X.fa
 ss:H X.ss=some (.lst (sts.map iV))
 fa:H X.fa=some (.lst [])
 gr:G X.r=none
 gst:G X.st=none
 gpl:G X.pl=none
 gso:G X.so=none
 gss:G X.ss=none
 gfa:G X.fa=none
 nd:X.st≠X.so/\X.st≠X.ss/\X.st≠X.fa/\X.so≠X.ss/\X.so≠X.fa/\X.ss≠X.fa
abbrev Zjw:Stmt:=inClass (top 84) 0
abbrev Zjx:Stmt:=inClass (top 84) 1
section
def Zjy(Bd:Bds)(CM:Addr):Sp:=fun vs H Q E=>∃(G:Hp)(X:Rx)(t:Kgf1.Tale)(l:List Kgf1.St)(src:List (List Nat))(sts:List Nat)(x:Kgf1.St),vs=[.ref X.r,iV (Tl.pk (Tl.Zg t) x)]/\ZaA Bd G H X t l src sts/\(∀y∈l,Tl.Ok (Tl.Zg t) y)/\Tl.Ok (Tl.Zg t) x/\x∉l/\l.length<=65536/\src.length=l.length /\
 (l.length=65536->∀H',Zc G H'->E (.ref CM) none H')/\(l.length < 65536->∀H',ZaA Bd G H' X t (l++[x]) (src++[[]]) sts->(∀a u,H a=some u->a≠X.st->a≠X.pl->a≠X.so->H' a=some u)->Q .non H')
theorem ZuU:Zo ["self","state"] ["self","state"] (Zi Zjx):=⟨rfl,rfl,rfl,by decide +kernel,rfl,by decide +kernel,by decide +kernel⟩
theorem ZuV(D:MethAt K Bd.re "enter" "Reach.enter" Zjx f)(CR:Zv K Bd.re reachF)(NM:XT K mg "TooManyStates" CM)(hlen:mg "len"=none)(hMS:GI mg "MOST_STATES" 65536):ZV P w K mg base (CX1 P w) 1 Bd.re "enter" ["self","state"] (Zjy Bd CM):=by
 refine D.Zap ZuU (fun _ _ _ _ _ _ us hl=>match us,hl with|[_,_],_=>rfl) (fun vs H Q E h=>?_) (fun cdv A outer s H vs Q E hr h=>?_)
 ·obtain⟨G,X,t,l,src,sts,x,rfl,_⟩:=h;rfl
 ·obtain⟨G,X,t,l,src,sts,x,rfl,hB,hall,hx,hn,hle,hsl,k0,k1⟩:=h;have big:sizeLine=16777216:=by decide
  have hu:=hu1 hr;refine⟨_,Ze (Zy (ZC Z9 (ZN Z0 (by rfl) hlen PySem.boot_len (Za (Zl (pv 0) rfl) Zb)) (Zu hMS) (Zz _)) (Zh (Znt Zt NM)) ZD)
   (Ze (ZfF hu (Zl (pv 0) rfl) (pv 1) (ZN Z0 (by rfl) hlen PySem.boot_len (Za (Zl (pv 0) rfl) Zb)) rfl)
   (Ze (ZK (Zax PySem.F.plainAttrs_list PySem.F.slot_list_append PySem.F.type_list_append ZaQ (Zl (pv 0) rfl) (Za (pv 1) Zb)))
   (Zh (ZK (Zax PySem.F.plainAttrs_list PySem.F.slot_list_append PySem.F.type_list_append ZaQ (Zl (pv 0) rfl) (Za (ZQ Zb) Zb)))))),?_⟩
  have hll:(l.map fun x=>iV (Tl.pk (Tl.Zg t) x)).length=l.length:=List.length_map _;refine⟨_,rfl,X.r,Bd.re,X.dx,_,_,rfl,hB.ob,CR.cl,CR.no _ (by decide +kernel),ZdK ..,X.st,_,rfl,.inl (SqL.of hB.st),rfl,_,rfl,?_⟩;by_cases hfull:l.length=65536
  ·exact ifD (by rw[hll,hfull];rfl) (k0 hfull H hB.gh)
  refine ifN (fun z=>hfull (by have:=V.int.inj z;rw[hll] at this;omega)) ?_;have k1:=k1 (by omega);have nr:∀{a:Addr}{ys:List V},H a=some (.lst ys)->X.r≠a:=fun h=>Z6 hB.ob h (by intro z;cases z);have nrp:X.r≠X.pl:=Z6 hB.ob hB.pl (by intro z;cases z);have np:∀{a:Addr}{ys:List V},H a=some (.lst ys)->a≠X.pl:=fun h=>Z6 h hB.pl (by intro z;cases z);obtain⟨as,ha1,ha2,ha3,ha4,ha5⟩:=hB.so;obtain⟨n1,n2,n3,n4,n5,n6⟩:=hB.nd;refine⟨_,rfl,X.r,Bd.re,X.dx,_,_,rfl,hB.ob,CR.cl,CR.no _ (by decide +kernel),ZdK ..,X.st,_,rfl,.inl (SqL.of hB.st),_,rfl,X.r,Bd.re,X.dx,_,_,rfl,hB.ob,CR.cl,CR.no _ (by decide +kernel),Zfc ..,_,rfl,X.pl,_,rfl,Zca.k (k:=Sum.inl ((Tl.pk (Tl.Zg t) x:Nat):Int)) hB.pl (by rw[ZuS];omega),?_⟩;have eput:putK (Zbi (Tl.Zg t) l) (Sum.inl ((Tl.pk (Tl.Zg t) x:Nat):Int)) (V.int ((l.map fun x=>iV (Tl.pk (Tl.Zg t) x)).length:Int))=Zbi (Tl.Zg t) (l++[x]):=by
   rw[hll];exact ZuT hall hx hn
  rw[eput];have o1:upd H X.pl (.dK (Zbi (Tl.Zg t) (l++[x]))) X.r=some (.ins Bd.re X.dx X.fs):=by rw[Zf nrp];exact hB.ob
  have o2:upd H X.pl (.dK (Zbi (Tl.Zg t) (l++[x]))) X.st=some (.lst (l.map fun x=>iV (Tl.pk (Tl.Zg t) x))):=by rw[Zf (np hB.st)];exact hB.st
  refine⟨_,rfl,X.r,Bd.re,X.dx,_,_,rfl,o1,CR.cl,CR.no _ (by decide +kernel),ZdK ..,.inl ⟨rfl,_,SqL.of o2⟩,_,rfl,X.st,_,_,rfl,rfl,o2,by rw[hll];omega,?_⟩;have nrs:X.r≠X.st:=nr hB.st;have nro:X.r≠X.so:=nr ha1;generalize hH2:upd (upd H X.pl (.dK (Zbi (Tl.Zg t) (l++[x])))) X.st (.lst ((l.map fun x=>iV (Tl.pk (Tl.Zg t) x))++[iV (Tl.pk (Tl.Zg t) x)]))=H2;have q1:H2 X.r=some (.ins Bd.re X.dx X.fs):=by rw[←hH2,Zf nrs];exact o1
  have q2:H2 X.so=some (.lst (as.map V.ref)):=by rw[←hH2,Zf n1.symm,Zf (np ha1)];exact ha1
  have q3:H2 X.st=some (.lst ((l++[x]).map fun x=>iV (Tl.pk (Tl.Zg t) x))):=by rw[←hH2,Zd,List.map_append];rfl
  have q4:H2 X.pl=some (.dK (Zbi (Tl.Zg t) (l++[x]))):=by rw[←hH2,Zf (np hB.st).symm,Zd]
  have q5:∀{a:Addr}{u:HO},H a=some u->a≠X.st->a≠X.pl->H2 a=some u:=fun h a1 a2=>by rw[←hH2,Zf a1,Zf a2];exact h
  clear hH2;have q6:∀{a:Addr},H2 a=none->H a=none:=fun{a} h=>by
   cases e:H a with
   |none=>rfl
   |some u =>
    by_cases a1:a=X.st
    ·rw[a1,q3] at h;cases h
    ·by_cases a2:a=X.pl
     ·rw[a2,q4] at h;cases h
     ·rw[q5 e a1 a2] at h;cases h
  refine⟨_,rfl,X.r,Bd.re,X.dx,_,_,rfl,q1,CR.cl,CR.no _ (by decide +kernel),Zjv ..,.inl ⟨rfl,_,SqL.of q2⟩,by show 0<=sizeLine;decide,fun a ha=>?_⟩;have haH:=q6 ha;have lk:∀{b:Addr}{u:HO},H2 b=some u->b≠a:=fun h=>Zk h ha;have w2:upd H2 a (.lst []) X.so=some (.lst (as.map V.ref)):=by rw[Zf (lk q2)];exact q2
  refine⟨X.so,_,_,rfl,rfl,w2,by rw[List.length_map];omega,?_⟩;have hs2:=q5 hB.ss n2.symm (np hB.ss);have hf2:=q5 hB.fa n3.symm (np hB.fa);have aso:a≠X.so:=(lk q2).symm;have asn:∀b∈as,b≠a:=fun b hb z=>by
   obtain⟨i,hi,ei⟩:=List.getElem_of_mem hb;have e1:as[i]?=some b:=by rw[List.getElem?_eq_getElem hi,ei]
   obtain⟨r0,hr0⟩:∃r0,src[i]?=some r0:=⟨_,List.getElem?_eq_getElem (by omega)⟩
   have:=ha4 i b r0 e1 hr0;rw[z,haH] at this;cases this
  have keep:∀{b:Addr}{u:HO},H2 b=some u->b≠X.so->upd (upd H2 a (.lst [])) X.so (.lst (as.map V.ref++[.ref a])) b=some u:=fun h b1=>by rw[Zf b1,Zf (lk h)];exact h
  refine k1 _ ⟨keep q1 nro,hB.pk,fun b u e=>?_,keep q3 n1,keep q4 (np ha1).symm,⟨as++[a],?_,?_,?_,?_,?_⟩,keep hs2 n4.symm,keep hf2 n5.symm,hB.gr,hB.gst,hB.gpl,hB.gso,hB.gss,hB.gfa,hB.nd⟩ fun b u e b1 b2 b3=>keep (q5 e b1 b2) b3
  ·exact keep (q5 (hB.gh _ _ e) (Zk e hB.gst) (Zk e hB.gpl)) (Zk e hB.gso)
  ·rw[Zd,List.map_append];rfl
  ·rw[List.length_append,List.length_append,ha2];rfl
  ·refine List.nodup_append.mpr ⟨ha3,by simp,fun b hb c hc=>?_⟩;have:c=a:=by simpa using hc
   rw[this];exact asn b hb
  ·intro i b r hb hr';rcases Tl.append_at hb with⟨hi,hb⟩|⟨hi,rfl⟩
   ·rw[List.getElem?_append_left (by omega)] at hr';have hbm:=List.mem_of_getElem? hb;obtain⟨_,b1,b2,b3,b4⟩:=ha5 b hbm;have hbH:=ha4 i b r hb hr';exact keep (q5 hbH b1 (np hbH)) b2
   ·rw[List.getElem?_append_right (by omega),hi,ha2] at hr';have:r=[]:=by simpa using hr'.symm
    rw[this,Zf aso,Zd];rfl
  ·intro b hb;rcases List.mem_append.mp hb with hb|hb
   ·exact ha5 b hb
   ·have:b=a:=by simpa using hb
    subst this;exact⟨hB.gh.free haH,(lk q3).symm,aso,(lk hs2).symm,(lk hf2).symm⟩
end
theorem Zeu(p s l o u f:V):Zw "packed" p []=[(("packed":Str),p)]/\Zw "states" s [(("packed":Str),p)]=[(("packed":Str),p),(("states":Str),s)]/\Zw "places" l [(("packed":Str),p),(("states":Str),s)]=[(("packed":Str),p),(("states":Str),s),(("places":Str),l)] /\
  Zw "sources" o [(("packed":Str),p),(("states":Str),s),(("places":Str),l)]=[(("packed":Str),p),(("states":Str),s),(("places":Str),l),(("sources":Str),o)] /\
  Zw "statuses" u [(("packed":Str),p),(("states":Str),s),(("places":Str),l),(("sources":Str),o)]=[(("packed":Str),p),(("states":Str),s),(("places":Str),l),(("sources":Str),o),(("statuses":Str),u)] /\
  Zw "far" f [(("packed":Str),p),(("states":Str),s),(("places":Str),l),(("sources":Str),o),(("statuses":Str),u)]=Zbh p s l o u f:=by
 refine⟨rfl,?_,?_,?_,?_,?_⟩
 ·rw[ZE (by decide +kernel)];rfl
 ·rw[ZE (by decide +kernel),ZE (by decide +kernel)];rfl
 ·rw[ZE (by decide +kernel),ZE (by decide +kernel),ZE (by decide +kernel)];rfl
 ·rw[ZE (by decide +kernel),ZE (by decide +kernel),ZE (by decide +kernel),ZE (by decide +kernel)];rfl
 ·rw[ZE (by decide +kernel),ZE (by decide +kernel),ZE (by decide +kernel),ZE (by decide +kernel),ZE (by decide +kernel)];rfl
theorem Zb0.hide{Bd:Bds}{F:Hp}{p C dx pa:Addr}{fs:List (Str×V)}{t:Kgf1.Tale}(hp:F p=some (.ins C dx fs))(ne:pa≠p)(h:Zb0 Bd F pa t):Zb0 Bd (hide p F) pa t:=by
 obtain⟨dy,lb,lo,ll,lm,h1,h2,h3,h4,h5⟩:=h;exact⟨dy,lb,lo,ll,lm,by rw[hide_ne ne];exact h1,h2.hide hp,Zag hp h3,Zag hp h4,h5.hide hp⟩
theorem Zff{H:Hp}{r a C dx:Addr}{fs fs':List (Str×V)}{o:HO}(hr:H r=some (.ins C dx fs))(ha:H a=none):r≠a/\upd (upd H a o) r (.ins C dx fs') r=some (.ins C dx fs')/\upd (upd H a o) r (.ins C dx fs') a=some o/\∀b u,H b=some u->b≠r->upd (upd H a o) r (.ins C dx fs') b=some u:=by
 have ne:r≠a:=Zk hr ha;exact⟨ne,Zd,by rw[Zf ne.symm,Zd],fun b u e hb=>by rw[Zf hb,Zf (Zk e ha)];exact e⟩
section
def ZnO(Ad:Ads)(Bd:Bds):Sp:=fun vs H Q _=>∃(G:Hp)(r dx tl:Addr)(t:Kgf1.Tale),vs=[.ref r,.ref tl]/\Zc G H/\G r=none/\H r=some (.ins Bd.re dx [])/\ZaN Ad G tl t/\Za2 t/\∀(G' H':Hp)(X:Rx),X.r=r->Zc G G'->ZaA Bd G' H' X t [] [] []->Q .non H'
theorem ZuW:Zo ["self","tale"] ["self","tale"] (Zi Zjw):=⟨rfl,rfl,rfl,by decide +kernel,rfl,by decide +kernel,by decide +kernel⟩
theorem ZuX(D:MethAt K Bd.re "__init__" "Reach.__init__" Zjw f)(hm:mg "Reach"=some (.ref Bd.re))(mk:PySem.W.makesIn K Bd.re=true)(kc:PySem.W.keepIn K (.ref Bd.re)=true)(CR:Zv K Bd.re reachF)
  (F1:ZaS P w K mg base CX0 4 "Packed" Bd.pk ["self","tale"] (ZnK Ad Bd)):ZaS P w K mg base CX0 6 "Reach" Bd.re ["self","tale"] (ZnO Ad Bd):=by
 refine D.ZcX hm mk kc ZuW (fun _ _ _ _ _ _ us hl=>match us,hl with|[_,_],_=>rfl) (fun vs H Q E h=>?_) (fun cdv A outer s H vs Q E hr h=>?_)
 ·obtain⟨G,r,dx,tl,t,rfl,_⟩:=h;rfl
 ·obtain⟨G,r,dx,tl,t,rfl,gh,gr,hr0,hT,hg,k⟩:=h;refine⟨_,Ze (Z4 (pv 0) (Ze0 F1 hr Zs (Za (pv 1) Zb)) rfl) (Ze (Z4 (pv 0) (ZQ Zb) rfl) (Ze (Z4 (pv 0) ZfG rfl) (Ze (Z4 (pv 0) (ZQ Zb) rfl) (Ze (Z4 (pv 0) (ZQ Zb) rfl) (Zh (Z4 (pv 0) (ZQ Zb) rfl)))))),?_⟩;have z0:([]:List V).length<=sizeLine:=by show 0<=sizeLine;decide
  refine⟨_,rfl,?_⟩;intro pa dpa hpa hdpa hne;have hpa1:upd H dpa (.own pa) pa=none:=by rw[Zf hne.symm];exact hpa
  refine⟨H,pa,dpa,tl,t,rfl,fun b u e=>by rw[Zf (Zk e hpa),Zf (Zk e hdpa)];exact e,hpa,Zd,hT.same gh,hg,fun H1 s1 hP=>⟨rfl,?_⟩⟩;have hrp:pa≠r:=(Zk hr0 hpa).symm;have r1:=s1 _ _ hr0;obtain⟨pf1,_⟩:=Zeu (.ref pa) (.ref 0) (.ref 0) (.ref 0) (.ref 0) (.ref 0);refine⟨_,rfl,r,Bd.re,dx,_,rfl,r1,CR.cl,CR.no _ (by decide +kernel),(by show 0 < 1000;decide),?_⟩;rw[pf1];have g1:Zc G (hide r H1):=ZdI (gh.trans s1) gr;have hP1:=hP.hide r1 hrp;have gr1:hide r H1 r=none:=hide_self _ _;have s2:=ZbN r H1 (.ins Bd.re dx [(("packed":Str),V.ref pa)]);have r2:upd H1 r (.ins Bd.re dx [(("packed":Str),V.ref pa)]) r=some (.ins Bd.re dx [(("packed":Str),V.ref pa)]):=Zd;generalize upd H1 r (.ins Bd.re dx [(("packed":Str),V.ref pa)])=H2 at s2 r2;generalize hide r H1=G1 at g1 hP1 gr1 s2;have gk:∀{F:Hp},(∀b u,G1 b=some u->F b=some u)->∀{a:Addr},F a=none->G1 a=none:=fun{F} h {a} e=>Zc.free (H:=G1) (H':=F) h e;have gne:∀{b:Addr}{u:HO},G1 b=some u->b≠r:=fun e=>Zk e gr1;refine⟨z0,fun st hst=>?_⟩;obtain⟨_,pf2,_⟩:=Zeu (.ref pa) (.ref st) (.ref 0) (.ref 0) (.ref 0) (.ref 0);refine⟨_,rfl,r,Bd.re,dx,_,rfl,by rw[Zf (Zk r2 hst)];exact r2,CR.cl,CR.no _ (by decide +kernel),(by show 1 < 1000;decide),?_⟩;rw[pf2];obtain⟨e1,r3,a3,k3⟩:=Zff (o:=.lst []) (fs':=[(("packed":Str),V.ref pa),(("states":Str),V.ref st)]) r2 hst;have gst:=gk (fun b u e=>s2 b u e) hst;have G3:∀b u,G1 b=some u->upd (upd H2 st (.lst [])) r (.ins Bd.re dx [(("packed":Str),V.ref pa),(("states":Str),V.ref st)]) b=some u:=fun b u e=>k3 b u (s2 b u e) (gne e);generalize upd (upd H2 st (.lst [])) r (.ins Bd.re dx [(("packed":Str),V.ref pa),(("states":Str),V.ref st)])=H3 at r3 a3 k3 G3;intro pl hpl;obtain⟨_,_,pf3,_⟩:=Zeu (.ref pa) (.ref st) (.ref pl) (.ref 0) (.ref 0) (.ref 0);refine⟨_,rfl,r,Bd.re,dx,_,rfl,by rw[Zf (Zk r3 hpl)];exact r3,CR.cl,CR.no _ (by decide +kernel),(by show 2 < 1000;decide),?_⟩;rw[pf3];obtain⟨e2,r4,a4,k4⟩:=Zff (o:=.dK []) (fs':=[(("packed":Str),V.ref pa),(("states":Str),V.ref st),(("places":Str),V.ref pl)]) r3 hpl;have gpl:=gk G3 hpl;have G4:∀b u,G1 b=some u->upd (upd H3 pl (.dK [])) r (.ins Bd.re dx [(("packed":Str),V.ref pa),(("states":Str),V.ref st),(("places":Str),V.ref pl)]) b=some u:=fun b u e=>k4 b u (G3 b u e) (gne e);have b4:=k4 _ _ a3 e1.symm;generalize upd (upd H3 pl (.dK [])) r (.ins Bd.re dx [(("packed":Str),V.ref pa),(("states":Str),V.ref st),(("places":Str),V.ref pl)])=H4 at r4 a4 k4 G4 b4;refine⟨z0,fun so hso=>?_⟩;obtain⟨_,_,_,pf4,_⟩:=Zeu (.ref pa) (.ref st) (.ref pl) (.ref so) (.ref 0) (.ref 0);refine⟨_,rfl,r,Bd.re,dx,_,rfl,by rw[Zf (Zk r4 hso)];exact r4,CR.cl,CR.no _ (by decide +kernel),(by show 3 < 1000;decide),?_⟩;rw[pf4];obtain⟨e3,r5,a5,k5⟩:=Zff (o:=.lst []) (fs':=[(("packed":Str),V.ref pa),(("states":Str),V.ref st),(("places":Str),V.ref pl),(("sources":Str),V.ref so)]) r4 hso;have gso:=gk G4 hso;have n1:st≠so:=Zk b4 hso;have G5:∀b u,G1 b=some u->upd (upd H4 so (.lst [])) r (.ins Bd.re dx [(("packed":Str),V.ref pa),(("states":Str),V.ref st),(("places":Str),V.ref pl),(("sources":Str),V.ref so)]) b=some u:=fun b u e=>k5 b u (G4 b u e) (gne e);have b5:=k5 _ _ b4 e1.symm;have c5:=k5 _ _ a4 e2.symm;generalize upd (upd H4 so (.lst [])) r (.ins Bd.re dx [(("packed":Str),V.ref pa),(("states":Str),V.ref st),(("places":Str),V.ref pl),(("sources":Str),V.ref so)])=H5 at r5 a5 k5 G5 b5 c5;refine⟨z0,fun ss hss=>?_⟩;obtain⟨_,_,_,_,pf5,_⟩:=Zeu (.ref pa) (.ref st) (.ref pl) (.ref so) (.ref ss) (.ref 0);refine⟨_,rfl,r,Bd.re,dx,_,rfl,by rw[Zf (Zk r5 hss)];exact r5,CR.cl,CR.no _ (by decide +kernel),(by show 4 < 1000;decide),?_⟩;rw[pf5];obtain⟨e4,r6,a6,k6⟩:=Zff (o:=.lst []) (fs':=[(("packed":Str),V.ref pa),(("states":Str),V.ref st),(("places":Str),V.ref pl),(("sources":Str),V.ref so),(("statuses":Str),V.ref ss)]) r5 hss;have gss:=gk G5 hss;have n2:st≠ss:=Zk b5 hss;have n4:so≠ss:=Zk a5 hss;have G6:∀b u,G1 b=some u->upd (upd H5 ss (.lst [])) r (.ins Bd.re dx [(("packed":Str),V.ref pa),(("states":Str),V.ref st),(("places":Str),V.ref pl),(("sources":Str),V.ref so),(("statuses":Str),V.ref ss)]) b=some u:=fun b u e=>k6 b u (G5 b u e) (gne e);have b6:=k6 _ _ b5 e1.symm;have c6:=k6 _ _ c5 e2.symm;have d6:=k6 _ _ a5 e3.symm;generalize upd (upd H5 ss (.lst [])) r (.ins Bd.re dx [(("packed":Str),V.ref pa),(("states":Str),V.ref st),(("places":Str),V.ref pl),(("sources":Str),V.ref so),(("statuses":Str),V.ref ss)])=H6 at r6 a6 k6 G6 b6 c6 d6;refine⟨z0,fun fa hfa=>?_⟩;obtain⟨_,_,_,_,_,pf6⟩:=Zeu (.ref pa) (.ref st) (.ref pl) (.ref so) (.ref ss) (.ref fa);refine⟨_,rfl,r,Bd.re,dx,_,rfl,by rw[Zf (Zk r6 hfa)];exact r6,CR.cl,CR.no _ (by decide +kernel),(by show 5 < 1000;decide),?_⟩;rw[pf6];obtain⟨e5,r7,a7,k7⟩:=Zff (o:=.lst []) (fs':=Zbh (.ref pa) (.ref st) (.ref pl) (.ref so) (.ref ss) (.ref fa)) r6 hfa;exact k G1 _ ⟨r,dx,pa,st,pl,so,ss,fa⟩ rfl g1 ⟨r7,hP1,fun b u e=>k7 b u (G6 b u e) (gne e),k7 _ _ b6 e1.symm,k7 _ _ c6 e2.symm,⟨[],k7 _ _ d6 e3.symm,rfl,by simp,fun i a r h=>by simp at h,fun a h=>by simp at h⟩,k7 _ _ a6 e4.symm,a7,gr1,gst,gpl,gso,gss,gk G6 hfa,n1,n2,Zk b6 hfa,n4,Zk d6 hfa,Zk a6 hfa⟩
end
section
variable{Bd:Bds}{G H:Hp}{X:Rx}{t:Kgf1.Tale}{l:List Kgf1.St}{src:List (List Nat)}{sts:List Nat}
theorem ZaA.nrl(h:ZaA Bd G H X t l src sts){a:Addr}{ys:List V}(ha:H a=some (.lst ys)):X.r≠a:=Z6 h.ob ha (by intro z;cases z)
theorem ZaA.npl(h:ZaA Bd G H X t l src sts){a:Addr}{ys:List V}(ha:H a=some (.lst ys)):X.pl≠a:=Z6 h.pl ha (by intro z;cases z)
theorem ZaA.other(h:ZaA Bd G H X t l src sts)(hsl:src.length=l.length){d:Addr}(u:HO)(hd:H d=none):ZaA Bd G (upd H d u) X t l src sts:=by
 obtain⟨as,a1,a2,a3,a4,a5⟩:=h.so;have kp:∀{b:Addr}{o:HO},H b=some o->upd H d u b=some o:=fun e=>by rw[Zf (Zk e hd)];exact e
 exact⟨kp h.ob,h.pk,fun b o e=>kp (h.gh _ _ e),kp h.st,kp h.pl,⟨as,kp a1,a2,a3,fun i a r x y=>kp (a4 i a r x y),a5⟩,kp h.ss,kp h.fa,h.gr,h.gst,h.gpl,h.gso,h.gss,h.gfa,h.nd⟩
theorem ZaA.Zcp(h:ZaA Bd G H X t l src sts)(v:Nat):ZaA Bd G (upd H X.ss (.lst ((sts++[v]).map iV))) X t l src (sts++[v]):=by
 obtain⟨as,a1,a2,a3,a4,a5⟩:=h.so;obtain⟨n1,n2,n3,n4,n5,n6⟩:=h.nd;have kp:∀{b:Addr}{o:HO},H b=some o->b≠X.ss->upd H X.ss (.lst ((sts++[v]).map iV)) b=some o:=fun e n=>by rw[Zf n];exact e
 exact⟨kp h.ob (h.nrl h.ss),h.pk,fun b o e=>kp (h.gh _ _ e) (Zk e h.gss),kp h.st n2,kp h.pl (h.npl h.ss),⟨as,kp a1 n4,a2,a3,fun i a r x y=>kp (a4 i a r x y) (a5 a (List.mem_of_getElem? x)).2.2.2.1,a5⟩,Zd,kp h.fa n6.symm,h.gr,h.gst,h.gpl,h.gso,h.gss,h.gfa,h.nd⟩
theorem ZnP:∀{as bs:List Addr},as.map V.ref=bs.map V.ref->as=bs
 |[],[],_=>rfl
 |[],_::_,h=>by cases h
 |_::_,[],h=>by cases h
 |a::as,b::bs,h=>by
  rw[List.map_cons,List.map_cons] at h;have h1:=V.ref.inj (List.cons.inj h).1;have h2:=ZnP (List.cons.inj h).2;rw[h1,h2]
theorem ZaA.ZuY(h:ZaA Bd G H X t l src sts){q:Nat}{r0:List Nat}{a:Addr}{as:List Addr}(hso:H X.so=some (.lst (as.map V.ref)))(ha:as[q]?=some a)(hr:src[q]?=some r0)(k:Nat):H a=some (.lst (r0.map iV))/\ZaA Bd G (upd H a (.lst ((r0++[k]).map iV))) X t l (src.set q (r0++[k])) sts:=by
 obtain⟨as',a1,a2,a3,a4,a5⟩:=h.so;rw[hso] at a1;have eas:as=as':=by
  have:=HO.lst.inj (Option.some.inj a1);exact ZnP this
 subst eas;have haH:=a4 q a r0 ha hr;obtain⟨b1,b2,b3,b4,b5⟩:=a5 a (List.mem_of_getElem? ha);have kp:∀{b:Addr}{o:HO},H b=some o->b≠a->upd H a (.lst ((r0++[k]).map iV)) b=some o:=fun e n=>by rw[Zf n];exact e
 refine⟨haH,kp h.ob (h.nrl haH),h.pk,fun b o e=>kp (h.gh _ _ e) (Zk e b1),kp h.st b2.symm,kp h.pl (h.npl haH),⟨as,kp hso b3.symm,by rw[List.length_set];exact a2,a3,fun i a' r x y=>?_,a5⟩,kp h.ss b4.symm,kp h.fa b5.symm,h.gr,h.gst,h.gpl,h.gso,h.gss,h.gfa,h.nd⟩;by_cases hi:i=q
 ·subst hi;rw[ha] at x;cases x;rw[List.getElem?_set_self (List.getElem?_eq_some_iff.mp hr).1] at y;cases y;exact Zd
 ·rw[List.getElem?_set_ne (Ne.symm hi)] at y;refine kp (a4 i a' r x y) fun z=>hi ?_;subst z;obtain⟨h1,e1⟩:=List.getElem?_eq_some_iff.mp x;obtain⟨h2,e2⟩:=List.getElem?_eq_some_iff.mp ha;exact Tl.ZcT a3 (e1.trans e2.symm)
end
def ZnQ(Bd:Bds)(G:Hp)(X:Rx)(t:Kgf1.Tale)(l:List Kgf1.St)(s:Kgf1.St)(k:Nat)(sts:List Nat)(d:Addr)(o:Obj)(kvs:List (Key×V))(m:Nat)(σ:St)(H:Hp):Prop :=
 ∃(l':List Kgf1.St)(src':List (List Nat))(o4:Option V),σ=[some (.ref X.r),some (iV k),some (iV (Tl.pk (Tl.Zg t) s)),some (iV 0),o4]/\ZaA Bd G H X t l' src' sts/\H d=some (.frz o (.dK kvs))/\l'=((Tl.ZaR t s).take m).foldl Kgf2.add l/\Tl.Zbs t k ((Tl.ZaR t s).take m) l' src'/\(∀y∈l',Tl.Ok (Tl.Zg t) y)/\l'.length<=65536
abbrev Zjz:Stmt:=top 85
section
def ZnR(Bd:Bds)(CM:Addr):Sp:=fun vs H Q E=>∃(G:Hp)(X:Rx)(t:Kgf1.Tale)(l:List Kgf1.St)(src:List (List Nat))(sts:List Nat)(k:Nat)(s:Kgf1.St),vs=[.ref X.r,iV k]/\ZaA Bd G H X t l src sts/\Za2 t/\(∀y∈l,Tl.Ok (Tl.Zg t) y)/\l[k]?=some s/\Tl.ZcW t k l src/\l.length<=65536/\sts.length<=65536 /\
 (65536 < ((Kgf2.after t s).foldl Kgf2.add l).length->∀H',Zc G H'->E (.ref CM) none H') /\
 (((Kgf2.after t s).foldl Kgf2.add l).length<=65536->∀H' src',ZaA Bd G H' X t ((Kgf2.after t s).foldl Kgf2.add l) src' (sts++[Kgf1.status t s])->Tl.ZcW t (k+1) ((Kgf2.after t s).foldl Kgf2.add l) src'->Q .non H')
theorem ZgE:Zo ["reach","place","state","status","behind"] ["reach","place"] (Zi Zjz):=⟨rfl,rfl,rfl,by decide +kernel,rfl,by decide +kernel,by decide +kernel⟩
theorem ZuZ(D:Zj K mg "visit" Zjz f)(CR:Zv K Bd.re reachF)(hGO:GI mg "GOES_ON" 0)(F1:Can P w K mg base CX0 1 "status_in" ["packed","state"] (ZnI Bd))(F2:Can P w K mg base CX0 1 "turns_from" ["packed","state"] (Zju Bd))(F3:ZV P w K mg base (CX1 P w) 1 Bd.re "enter" ["self","state"] (Zjy Bd CM)) :
  Can P w K mg base (CX1 P w) 2 "visit" ["reach","place"] (ZnR Bd CM):=by
 refine D.Zap ZgE (fun _ _ _ _ _ _ us hl=>match us,hl with|[_,_],_=>rfl) (fun vs H Q E h=>?_) (fun cdv A outer s H vs Q E hr h=>?_)
 ·obtain⟨G,X,t,l,src,sts,k,st,rfl,_⟩:=h;rfl
 ·obtain⟨G,X,t,l,src,sts,k,st,rfl,hB,hg,hall,hst,hsk,hle,hsts,k0,k1⟩:=h;have big:sizeLine=16777216:=by decide
  have hu:=hu1 hr;have hkl:k < l.length:=(List.getElem?_eq_some_iff.mp hst).1;have hok:=hall st (List.mem_of_getElem? hst);refine⟨_,Ze (Zx (i:=2) ZgE.nd rfl (Or.inl rfl) (ZG ZO (Zl (pv 0) rfl) (pv 1) (fun _ _=>rfl)))
   (Ze (Zx (i:=3) ZgE.nd rfl (Or.inl rfl) (Zp F1 hr Zs (Za (Zl (pv 0) rfl) (Za (pv 2) Zb))))
   (Ze (ZK (Zax PySem.F.plainAttrs_list PySem.F.slot_list_append PySem.F.type_list_append ZaQ (Zl (pv 0) rfl) (Za (pv 3) Zb)))
   (Ze (Zy (ZC Zdg (pv 3) (Zu hGO) (Zz _)) (Zh ZoN) ZD)
   (Zh (Za1 (Throws.own Zt) rfl (Zug (Zp F2 hr Zs (Za (Zl (pv 0) rfl) (Za (pv 2) Zb)))) (ZL (i:=4) ZgE.nd rfl (Or.inl rfl))
    (Ze (Zy (Zdd (ZfE hu (pv 4) (Zl (pv 0) rfl))) (Zh (ZK (Z8 (pv 0) CR.cl F3 hr (ZJ Zt) (Za (pv 4) Zb)))) ZD)
    (Zh (ZK (Zax PySem.F.plainAttrs_list PySem.F.slot_list_append PySem.F.type_list_append ZaQ (ZG ZO (Zl (pv 0) rfl) (ZeL hu (Zl (pv 0) rfl) (pv 4) (fun _ _=>rfl)) (fun _ _=>rfl)) (Za (pv 1) Zb)))))))))),?_⟩
  have hit:(l.map fun x=>iV (Tl.pk (Tl.Zg t) x))[k]?=some (iV (Tl.pk (Tl.Zg t) st)):=by rw[List.getElem?_map,hst];rfl
  refine⟨_,rfl,X.r,Bd.re,X.dx,_,_,rfl,hB.ob,CR.cl,CR.no _ (by decide +kernel),ZdK ..,_,rfl,X.st,_,_,_,rfl,rfl,SqL.of hB.st,ZF hit,?_⟩;refine⟨_,rfl,X.r,Bd.re,X.dx,_,_,rfl,hB.ob,CR.cl,CR.no _ (by decide +kernel),ZdJ ..,_,rfl,X.pa,t,st,rfl,hB.pk.same hB.gh,hg,hok,?_⟩;refine⟨_,rfl,X.r,Bd.re,X.dx,_,_,rfl,hB.ob,CR.cl,CR.no _ (by decide +kernel),Zfd ..,.inl ⟨rfl,_,SqL.of hB.ss⟩,_,rfl,X.ss,_,_,rfl,rfl,hB.ss,by rw[map_len];omega,?_⟩;have hB1:=hB.Zcp (Kgf1.status t st);have e1:upd H X.ss (.lst (sts.map iV++[iV (Kgf1.status t st)]))=upd H X.ss (.lst ((sts++[Kgf1.status t st]).map iV)):=by rw[List.map_append];rfl
  rw[e1];generalize upd H X.ss (.lst ((sts++[Kgf1.status t st]).map iV))=H1 at hB1;refine⟨_,rfl,rfl,_,rfl,?_⟩;by_cases hs0:Kgf1.status t st=0;rotate_left
  ·have ea:Kgf2.after t st=[]:=Tl.ZlX hs0;rw[ea] at k1;refine ZbW (fun z=>hs0 (by have:=Zau.mp z;omega)) (k1 hle H1 src hB1 (hsk.next hst fun y=>?_));rw[ea]
  rw[hs0] at hB1 k1 ⊢;refine Zbt rfl ?_;have enx:=Tl.ZrT hs0 l;refine⟨_,rfl,X.r,Bd.re,X.dx,_,_,rfl,hB1.ob,CR.cl,CR.no _ (by decide +kernel),ZdJ ..,_,rfl,X.pa,t,st,rfl,hB1.pk.same hB1.gh,hg,hok,fun d hd=>?_⟩;refine⟨d,_,rfl,Zd,fun o=>?_⟩;rw[Z5];have hfit:∀x∈t.whens,Tl.Fits (Tl.Zg t) x.change:=fun x hx=>(hg.wf x hx).d;have htok:=Tl.Zec hfit hok t.whens.length;have hkey:∀m:Nat,(ZaD (Tl.Zg t) (Tl.ZI t st t.whens.length))[m]?=((Tl.ZI t st t.whens.length)[m]?).map fun y=>((Sum.inl ((Tl.pk (Tl.Zg t) y.1:Nat):Int):Key),iV y.2):=fun m=>by unfold ZaD;rw[List.getElem?_map]
  have hklen:(ZaD (Tl.Zg t) (Tl.ZI t st t.whens.length)).length=(Tl.ZaR t st).length:=by unfold ZaD Tl.ZaR;rw[List.length_map,List.length_map]
  generalize hkvs:ZaD (Tl.Zg t) (Tl.ZI t st t.whens.length)=kvs at hkey hklen;refine Znv (n:=kvs.length) (ZnQ Bd G X t l st k (sts++[0]) d o kvs) ?_ ?_ ?_ ?_ ?_
  ·refine⟨l,src,none,rfl,hB1.other hsk.len _ hd,Zd,rfl,?_,hall,hle⟩;rw[List.take_zero];exact hsk
  ·rintro i σ H' hi ⟨l',src',o4,rfl,_,hd',_⟩;exact⟨hd',hi⟩
  ·rintro σ H' ⟨l',src',o4,rfl,_,hd',_⟩;exact⟨hd',Nat.le_refl _⟩
  ·rintro m σ H' x H2 hm ⟨l',src',o4,rfl,hB',hd',el,hV,hall',hle'⟩ ⟨rfl,key,v,hkv,rfl⟩;rw[hkey] at hkv;cases ey:(Tl.ZI t st t.whens.length)[m]? with
   |none=>rw[ey] at hkv;cases hkv
   |some y =>
   rw[ey] at hkv;obtain⟨rfl,rfl⟩:key=Sum.inl ((Tl.pk (Tl.Zg t) y.1:Nat):Int)/\v=iV y.2:=by
    have:=Option.some.inj hkv;exact⟨(congrArg Prod.fst this).symm,(congrArg Prod.snd this).symm⟩
   have hoky:Tl.Ok (Tl.Zg t) y.1:=htok y (List.mem_of_getElem? ey);have hnx:(Tl.ZaR t st)[m]?=some y.1:=by unfold Tl.ZaR;rw[List.getElem?_map,ey];rfl
   have htk:(Tl.ZaR t st).take (m+1)=(Tl.ZaR t st).take m++[y.1]:=by rw[List.take_add_one,hnx];rfl
   have efold:((Tl.ZaR t st).take (m+1)).foldl Kgf2.add l=Kgf2.add l' y.1:=by rw[htk,List.foldl_append,←el];rfl
   have hnN:y.1∉(Tl.ZaR t st).take m:=fun z=>by
    have hnd:(Tl.ZaR t st).Nodup:=Tl.ZfV t st _;obtain⟨j,hj,ej⟩:=List.getElem_of_mem z;rw[List.length_take] at hj;rw[List.getElem_take] at ej;obtain⟨hm',em⟩:=List.getElem?_eq_some_iff.mp hnx;have:=Tl.ZcT hnd (ej.trans em.symm);omega
   have fin:∀(l2:List Kgf1.St)(src2:List (List Nat))(H3:Hp)(D:Ends),ZaA Bd G H3 X t l2 src2 (sts++[0])->H3 d=some (.frz o (.dK kvs))->l2=Kgf2.add l' y.1->Tl.Zbs t k ((Tl.ZaR t st).take m) l2 src2->y.1∈l2->(∀z∈l2,Tl.Ok (Tl.Zg t) z)->l2.length<=65536->(∀σ H4,ZnQ Bd G X t l st k (sts++[0]) d o kvs (m+1) σ H4->D.nx σ H4) ->
     ZgX (tBM K "list" ZkH (tOp (Zdl K) (Zbo K (ZH 0) "sources") (ZfD (Zbo K (ZH 0) "places") (ZH 4))) (ZU (ZH 1) Zaf)) D [some (.ref X.r),some (iV k),some (iV (Tl.pk (Tl.Zg t) st)),some (iV 0),some (V.int ((Tl.pk (Tl.Zg t) y.1:Nat):Int))] H3:=by
    intro l2 src2 H3 D hB3 hd3 el2 hV2 hin hall2 hle2 hD;have hq:l2.idxOf y.1 < l2.length:=List.idxOf_lt_length_iff.mpr hin;have hlq:l2[l2.idxOf y.1]?=some y.1:=Tl.Zd6 hin;obtain⟨as,a1,a2,a3,a4,a5⟩:=hB3.so;obtain⟨a,ha⟩:∃a,as[l2.idxOf y.1]?=some a:=⟨_,List.getElem?_eq_getElem (by rw[a2,hV2.len];exact hq)⟩
    obtain⟨r0,hr0⟩:∃r0,src2[l2.idxOf y.1]?=some r0:=⟨_,List.getElem?_eq_getElem (by rw[hV2.len];exact hq)⟩
    obtain⟨haH,hB4⟩:=hB3.ZuY a1 ha hr0 k;have hdg:=Zas.k (k:=Sum.inl ((Tl.pk (Tl.Zg t) y.1:Nat):Int)) hB3.pl;rw[Zfe hall2 hoky,if_pos hin] at hdg;have har:(as.map V.ref)[l2.idxOf y.1]?=some (.ref a):=by rw[List.getElem?_map,ha];rfl
    have hrl:=hV2.ZrV hr0;refine⟨_,rfl,X.r,Bd.re,X.dx,_,_,rfl,hB3.ob,CR.cl,CR.no _ (by decide +kernel),Zjv ..,_,rfl,X.r,Bd.re,X.dx,_,_,rfl,hB3.ob,CR.cl,CR.no _ (by decide +kernel),Zfc ..,_,rfl,X.pl,_,rfl,hdg,X.so,_,_,_,rfl,rfl,SqL.of a1,ZF har,.inl ⟨rfl,_,SqL.of haH⟩,_,rfl,a,_,_,rfl,rfl,haH,by rw[map_len];omega,?_⟩;refine hD _ _ ⟨l2,src2.set (l2.idxOf y.1) (r0++[k]),_,rfl,?_,?_,by rw[efold,el2],?_,hall2,hle2⟩
    ·rw[List.map_append] at hB4;exact hB4
    ·rw[Zf (Z6 hd3 haH (by intro z;cases z))];exact hd3
    ·rw[htk];exact hV2.put hlq hr0 hnN
   refine⟨_,rfl,_,rfl,X.r,Bd.re,X.dx,_,_,rfl,hB'.ob,CR.cl,CR.no _ (by decide +kernel),Zfc ..,X.pl,_,rfl,Zas.k (k:=Sum.inl ((Tl.pk (Tl.Zg t) y.1:Nat):Int)) hB'.pl,_,rfl,?_⟩;rw[Zfe hall' hoky];by_cases hin:y.1∈l'
   ·have eadd:Kgf2.add l' y.1=l':=if_pos (List.contains_iff_mem.mpr hin);rw[if_pos hin];exact ZW (fin l' src' _ _ hB' hd' eadd.symm hV hin hall' hle' fun σ H4 z=>z)
   ·have eadd:Kgf2.add l' y.1=l'++[y.1]:=if_neg fun z=>hin (List.contains_iff_mem.mp z);rw[if_neg hin];refine Zar ⟨_,rfl,X.r,X.dx,_,rfl,hB'.ob,ZnM _ _ _ _ _ _ (by decide +kernel) (by decide +kernel) (by decide +kernel) (by decide +kernel) (by decide +kernel) (by decide +kernel),_,rfl,G,X,t,l',src',sts++[0],y.1,rfl,hB',hall',hoky,hin,hle',hV.len,fun hfull=>k0 ?_,fun hlt H3 hB3 fr=>?_⟩
    ·rw[←enx];have hpre:((Tl.ZaR t st).take (m+1)).foldl Kgf2.add l <+: (Tl.ZaR t st).foldl Kgf2.add l:=by
      conv=>rhs;rw[←List.take_append_drop (m+1) (Tl.ZaR t st)]
      rw[List.foldl_append];exact Tl.Zd5 _ _
     have:=hpre.length_le;rw[efold,eadd,List.length_append] at this;have h1:([y.1]:List Kgf1.St).length=1:=rfl;omega
    ·have hd3:H3 d=some (.frz o (.dK kvs)):=fr d _ hd' (Z6 hd' hB'.st (by intro z;cases z)) (Z6 hd' hB'.pl (by intro z;cases z)) (by
      obtain⟨as,a1,_⟩:=hB'.so;exact Z6 hd' a1 (by intro z;cases z))
     exact fin (l'++[y.1]) (src'++[[]]) H3 _ hB3 hd3 eadd.symm (hV.enter hin) (by simp) (fun z hz=>by
      rcases List.mem_append.mp hz with hz|hz
      ·exact hall' z hz
      ·have:z=y.1:=by simpa using hz
       rw[this];exact hoky) (by rw[List.length_append];show _+1<=_;omega) fun σ H4 z=>z
  ·rintro σ H' ⟨l',src',o4,rfl,hB',hd',el,hV,hall',hle'⟩;rw[hklen,List.take_length] at el hV;rw[enx] at el;subst el;exact k1 hle' H' src' hB' (hV.next (by
    have hp:=Tl.Zd5 (Kgf2.after t st) l;rw[List.prefix_iff_getElem?.mp hp k hkl];rw[←hst,List.getElem?_eq_getElem hkl]) fun y=>Tl.ZlW hs0)
end
def Zaj:Option Nat->V
 |none=>.int (-1)
 |some n=>iV n
theorem ZjA{o:Option Nat}:Zaj o=V.int (-1)↔o=none:=by
 cases o with
 |none=>exact⟨fun _=>rfl,fun _=>rfl⟩
 |some n =>
  constructor
  ·intro h;have:((n:Nat):Int)=-1:=V.int.inj h;omega
  ·intro h;cases h
abbrev Zfg:Stmt:=top 86
abbrev ZjB:Stmt:=top 87
structure Zbj(Bd:Bds)(F:Hp)(r:Addr)(t:Kgf1.Tale)(l:List Kgf1.St):Prop where
 ex:∃X:Rx,X.r=r/\F r=some (.ins Bd.re X.dx X.fs)/\Zb0 Bd F X.pa t/\F X.st=some (.lst (l.map fun x=>iV (Tl.pk (Tl.Zg t) x)))/\F X.pl=some (.dK (Zbi (Tl.Zg t) l))/\F X.ss=some (.lst ((l.map (Kgf1.status t)).map iV))/\F X.fa=some (.lst ((l.map (Kgf2.far t l)).map Zaj))
theorem Zbj.same{Bd:Bds}{F F':Hp}{r:Addr}{t:Kgf1.Tale}{l:List Kgf1.St}(s:Zc F F')(h:Zbj Bd F r t l):Zbj Bd F' r t l:=by
 obtain⟨X,e,h1,h2,h3,h4,h5,h6⟩:=h.ex;exact⟨X,e,s _ _ h1,h2.same s,s _ _ h3,s _ _ h4,s _ _ h5,s _ _ h6⟩
theorem Zu0(t:Kgf1.Tale)(l:List Kgf1.St){i:Nat}{s:Kgf1.St}(h:l[i]?=some s):(Tl.ZaY t l)[i]?=some (if Kgf1.status t s=1 then some 0 else none):=by
 unfold Tl.ZaY;rw[List.getElem?_map,h];rfl
section
def ZnS(Bd:Bds):Sp:=fun vs H Q _=>∃(G:Hp)(X:Rx)(t:Kgf1.Tale)(l:List Kgf1.St)(src:List (List Nat)),vs=[.ref X.r]/\ZaA Bd G H X t l src (l.map (Kgf1.status t))/\Tl.ZeW t l src/\Tl.Za6 t l/\l.length<=65536/\∀p H',Zc H H'->H p=none->H' p=some (.lst ((l.map (Kgf2.far t l)).map Zaj))->Q (.ref p) H'
theorem Zcl:Zo ["reach","far","place","met","done","source","status"] ["reach"] (Zi Zfg):=⟨rfl,rfl,rfl,by decide +kernel,rfl,by decide +kernel,by decide +kernel⟩
def Zu1:Scope:={ kind:=.function,names:=[(".0",.local),("status",.local),("WON",.globalImplicit),("NOT_ANY",.globalImplicit)],isGenerator:=false,isCoroutine:=false }
def Zu2:Scope:={ kind:=.function,names:=[(".0",.local),("place",.local),("status",.local),("WON",.globalImplicit)],isGenerator:=false,isCoroutine:=false }
theorem Zu3:ZaT ["reach","far","place","met","done","source","status"] (Zi Zfg) Zu1 [("status",6)]:=⟨rfl,by decide +kernel,by decide +kernel,by decide +kernel,by decide +kernel⟩
theorem Zu4:ZaT ["reach","far","place","met","done","source","status"] (Zi Zfg) Zu2 [("place",2),("status",6)]:=⟨rfl,by decide +kernel,by decide +kernel,by decide +kernel,by decide +kernel⟩
theorem Zu5(D:Zj K mg "measure" Zfg f)(CR:Zv K Bd.re reachF)(hlen:mg "len"=none)(henum:mg "enumerate"=none)(hW:GI mg "WON" 1)(hNA:GI mg "NOT_ANY" (-1)):Can P w K mg base CX0 1 "measure" ["reach"] (ZnS Bd):=by
 refine D.can Zcl (fun _ _ _ _ _ _ us hl=>match us,hl with|[_],_=>rfl) (fun vs H Q E h=>?_) (fun cdv A outer s H vs Q E hr h=>?_)
 ·obtain⟨G,X,t,l,src,rfl,_⟩:=h;rfl
 ·obtain⟨G,X,t,l,src,rfl,hB,hS,hC,hle,k⟩:=h;have big:sizeLine=16777216:=by decide
  refine⟨_,Ze (ZkN (i:=1) (own:=[("status",6)]) (tt:=ZaU) (te:=tIf (ZcL (tOp rEq (ZH 6) (tC (.int 1)))) (tC (.int 0)) (tC (.int (-1)))) rfl Zcl.nd rfl rfl rfl (Zaw (Zl (pv 0) rfl)) Zu3 (fun _ _ _ _ _=>ZL (i:=6) Zcl.nd rfl (Or.inl rfl)) (fun _ _ _ _ _=>Zb9)
    (fun _ _ _ _ _=>ZdS (ZC Z9 (pv 6) (Zu hW) (Zz _)) Zr (Zu hNA)))
   (Ze (ZkN (i:=3) (own:=[("place",2),("status",6)]) (g:=Zdf K 2 (Zbn (ZaP 2) (Zbn (ZaP 6) Zde))) (tt:=ZcL (tOp rEq (ZH 6) (tC (.int 1)))) (te:=ZH 2) rfl Zcl.nd rfl rfl rfl (ZeN (by rfl) henum (Za (Zl (pv 0) rfl) Zb)) Zu4
    (fun _ _ _ _ _=>ZbA rfl (Zal (ZL (i:=2) Zcl.nd rfl (Or.inl rfl) (Or.inr rfl)) (Zal (ZL (i:=6) Zcl.nd rfl (Or.inl rfl) (Or.inr rfl)) Zbz))) (fun _ _ _ _ _=>ZeK (ZC Z9 (pv 6) (Zu hW) (Zz _))) (fun _ _ _ _ _=>pv 2))
   (Ze (Zx (i:=4) Zcl.nd rfl (Or.inl rfl) Zr)
   (Ze (ZbB PassesOwn.never (ZC Zcq (pv 4) (ZN Z0 (by rfl) hlen PySem.boot_len (Za (pv 3) Zb)) (Zz _))
    (Ze (Zx (i:=2) Zcl.nd rfl (Or.inl rfl) (ZG ZO (pv 3) (pv 4) (fun _ _=>rfl)))
    (Ze (Za1 PassesOwn.never rfl (Zaw (ZG ZO (Zl (pv 0) rfl) (pv 2) (fun _ _=>rfl))) (ZL (i:=5) Zcl.nd rfl (Or.inl rfl))
     (Zh (Zy (ZC Z9 (ZG ZO (pv 1) (pv 5) (fun _ _=>rfl)) (Zu hNA) (Zz _))
      (Ze (Zj7 (ZY ZbD (ZG ZO (pv 1) (pv 2) (fun _ _=>rfl)) Zr) (Zj6 (pv 1) (pv 5) set_list))
      (Zh (ZK (Zax PySem.F.plainAttrs_list PySem.F.slot_list_append PySem.F.type_list_append ZaQ (pv 3) (Za (pv 5) Zb))))) ZD)))
    (Zh (ZbP (i:=4) Zcl.nd rfl (Or.inl rfl) Zr ZcK)))))
   (Zh (Zm (pv 1)))))),?_⟩
  have stat_at:∀{i:Nat}{v:V},((l.map (Kgf1.status t)).map iV)[i]?=some v->∃s,l[i]?=some s/\v=iV (Kgf1.status t s):=fun{i v} h=>by
   rw[List.getElem?_map,List.getElem?_map] at h;cases e:l[i]? with
   |none=>rw[e] at h;cases h
   |some s=>rw[e] at h;exact⟨s,rfl,(Option.some.inj h).symm⟩
  have hsl:((l.map (Kgf1.status t)).map iV).length=l.length:=by rw[List.length_map,List.length_map]
  refine⟨_,rfl,X.r,Bd.re,X.dx,_,_,rfl,hB.ob,CR.cl,CR.no _ (by decide +kernel),Zfd ..,X.ss,rfl,⟨_,SqL.of hB.ss⟩,fun lf hlf=>?_⟩;have s1:∀o,Zc H (upd H lf o):=fun o=>Zq hlf;refine ZcN (K:=K) (a:=X.ss) (xs:=(l.map (Kgf1.status t)).map iV) (fun i H'=>H'=upd H lf (.lst (((Tl.ZaY t l).take i).map Zaj))/\i<=65536) ⟨rfl,by omega⟩ (fun i H' _ e=>by rw[e.1];exact SqL.of (s1 _ _ _ hB.ss)) ?_ ?_
  ·rintro i x H' hx ⟨rfl,hi⟩;obtain⟨s,hs,rfl⟩:=stat_at hx;have hil:=(List.getElem?_eq_some_iff.mp hs).1;have hlt:(((Tl.ZaY t l).take i).map Zaj).length < sizeLine:=by
    rw[List.length_map,List.length_take];omega
   have e0:=Zu0 t l hs;refine⟨rfl,?_⟩;simp only[ZaU,if_true];refine⟨_,rfl,rfl,_,rfl,?_⟩;by_cases hw:Kgf1.status t s=1
   ·refine ifD (by rw[hw];rfl) ⟨_,Zd,hlt,?_,by omega⟩;rw[Z5,List.take_add_one,e0,if_pos hw,List.map_append];rfl
   ·refine ifN (fun z=>hw (by have:=Zau.mp z;omega)) ⟨_,Zd,hlt,?_,by omega⟩;rw[Z5,List.take_add_one,e0,if_neg hw,List.map_append];rfl
  rintro H1 ⟨rfl,_⟩;rw[hsl];have efar:(Tl.ZaY t l).take l.length=Tl.ZaY t l:=List.take_of_length_le (by unfold Tl.ZaY;rw[List.length_map];exact Nat.le_refl _);rw[efar];have S1:=s1 (.lst ((Tl.ZaY t l).map Zaj));have f1:upd H lf (.lst ((Tl.ZaY t l).map Zaj)) lf=some (.lst ((Tl.ZaY t l).map Zaj)):=Zd;generalize upd H lf (.lst ((Tl.ZaY t l).map Zaj))=H1 at S1 f1;refine⟨_,rfl,X.r,Bd.re,X.dx,_,_,rfl,S1 _ _ hB.ob,CR.cl,CR.no _ (by decide +kernel),Zfd ..,X.ss,_,rfl,SqL.of (S1 _ _ hB.ss),fun lm hlm=>?_⟩;have hlfm:lf≠lm:=Zk f1 hlm;have hlmH:H lm=none:=S1.free hlm;refine Zep (n:=l.length) (fun i H'=>Zc H1 H'/\H' lm=some (.lst (((List.range i).filter fun p=>match l[p]? with|some s=>Kgf1.status t s==1|none=>false).map iV))/\i<=l.length) ⟨Zq hlm,Zd,Nat.zero_le _⟩ ?_ ?_ ?_ ?_
  ·rintro i H' hi ⟨s2,_⟩;exact⟨_,_,SqL.of (s2 _ _ (S1 _ _ hB.ss)),List.getElem?_eq_getElem (by rw[hsl];exact hi)⟩
  ·rintro H' ⟨s2,_⟩;exact⟨_,SqL.of (s2 _ _ (S1 _ _ hB.ss)),by rw[hsl];exact Nat.le_refl _⟩
  ·rintro i H' x H2 hi ⟨s2,hl2,_⟩ ⟨T,b,rfl,hT,rfl,hb⟩;obtain⟨s,hs,rfl⟩:=stat_at (hb _ (SqL.of (s2 _ _ (S1 _ _ hB.ss))));have s3:Zc H' (upd H' T (.tup [.int (i:Nat),iV (Kgf1.status t s)])):=Zq hT;have er:((List.range (i+1)).filter fun p=>match l[p]? with|some s=>Kgf1.status t s==1|none=>false)=((List.range i).filter fun p=>match l[p]? with|some s=>Kgf1.status t s==1|none=>false)++(if Kgf1.status t s=1 then[i] else[]):=by
    rw[List.range_succ,List.filter_append];congr 1;rw[List.filter_cons,hs];by_cases hw:Kgf1.status t s=1<;>simp[hw]
   have hlt:(((List.range i).filter fun p=>match l[p]? with|some s=>Kgf1.status t s==1|none=>false).map iV).length < sizeLine:=by
    rw[map_len];have:=List.length_filter_le (fun p=>match l[p]? with|some s=>Kgf1.status t s==1|none=>false) (List.range i);rw[List.length_range] at this;omega
   refine⟨T,_,rfl,SqT.of Zd,rfl,_,_,rfl,_,_,rfl,rfl,rfl,?_⟩;refine⟨_,rfl,rfl,_,rfl,?_⟩;by_cases hw:Kgf1.status t s=1
   ·refine ifD (by rw[hw];rfl) ⟨_,rfl,_,s3 _ _ hl2,hlt,fun a u e=>?_,?_,hi⟩
    ·rw[Zf (Zk e hlm)];exact s3 _ _ (s2 _ _ e)
    ·rw[Zd,er,if_pos hw,List.map_append];rfl
   ·refine ifN (fun z=>hw (by have:=Zau.mp z;omega)) ⟨s2.trans s3,?_,hi⟩;rw[s3 _ _ hl2,er,if_neg hw,List.append_nil]
  rintro H2 ⟨s2,hl2,_⟩;have f2:=s2 _ _ f1;have S2:=S1.trans s2;have m2:H2 lm=some (.lst ((Tl.ZfY t l).map iV)):=hl2;clear hl2;refine ZbK (fun m σ H'=>∃(far:List (Option Nat))(met:List Nat)(dn:Nat)(op os:Option V),m=l.length - dn/\σ=[some (.ref X.r),some (.ref lf),op,some (.ref lm),some (iV dn),os,none]/\Zc H H'/\H' lf=some (.lst (far.map Zaj))/\H' lm=some (.lst (met.map iV))/\Tl.Bfs t l src far met dn)
   (fun σ H'=>∃(op os od:Option V),σ=[some (.ref X.r),some (.ref lf),op,some (.ref lm),od,os,none]/\Zc H H'/\H' lf=some (.lst ((l.map (Kgf2.far t l)).map Zaj))) ?_ ?_ ?_
  ·exact⟨_,Tl.ZaY t l,Tl.ZfY t l,0,none,none,rfl,rfl,S2,f2,m2,Tl.ZrU t l src⟩
  ·rintro σ H' ⟨op,os,od,rfl,s3,hf⟩;exact⟨_,rfl,k lf H' s3 hlf hf⟩
  ·rintro exit m σ H' ⟨far,met,dn,op,os,rfl,rfl,s3,hf,hm,hBf⟩;have hml:=hBf.ZlZ;refine⟨_,rfl,_,rfl,lm,_,rfl,.inl (SqL.of hm),_,_,rfl,rfl,_,rfl,?_⟩;by_cases hdn:dn < met.length
   ·refine ZcY (decide_eq_true (by rw[map_len];omega)) ?_;obtain⟨q,hq⟩:∃q,met[dn]?=some q:=⟨_,List.getElem?_eq_getElem hdn⟩
    obtain⟨d,hd⟩:=(hBf.inn q).mp (List.mem_of_getElem? hq);have hql:q < l.length:=by rw[←hBf.Zcu];exact Tl.ZhT hd
    obtain⟨as,a1,a2,a3,a4,a5⟩:=hB.so;obtain⟨a,ha⟩:∃a,as[q]?=some a:=⟨_,List.getElem?_eq_getElem (by rw[a2,hS.len];exact hql)⟩
    obtain⟨r,hr'⟩:∃r,src[q]?=some r:=⟨_,List.getElem?_eq_getElem (by rw[hS.len];exact hql)⟩
    have haH:=a4 q a r ha hr';have har:(as.map V.ref)[q]?=some (.ref a):=by rw[List.getElem?_map,ha];rfl
    refine⟨_,rfl,_,rfl,lm,_,_,_,rfl,rfl,SqL.of hm,ZF (Zbe hq),?_⟩;refine⟨_,rfl,X.r,Bd.re,X.dx,_,_,rfl,s3 _ _ hB.ob,CR.cl,CR.no _ (by decide +kernel),Zjv ..,_,rfl,X.so,_,_,_,rfl,rfl,SqL.of (s3 _ _ a1),ZF har,a,rfl,⟨_,SqL.of (s3 _ _ haH)⟩,?_⟩;refine Za9 (K:=K) (a:=a) (xs:=r.map iV) (fun i σ H3=>∃(far:List (Option Nat))(met:List Nat)(os:Option V),σ=[some (.ref X.r),some (.ref lf),some (iV q),some (.ref lm),some (iV dn),os,none]/\Zc H H3/\H3 lf=some (.lst (far.map Zaj))/\H3 lm=some (.lst (met.map iV))/\Tl.Bfs t l src far met dn/\met[dn]?=some q/\Tl.fr far q=some d/\∀p∈r.take i,∃e,Tl.fr far p=some e/\e<=d+1)
     ⟨far,met,os,rfl,s3,hf,hm,hBf,hq,hd,by simp⟩ (fun i σ H3 _ ⟨_,_,_,_,s4,_⟩=>SqL.of (s4 _ _ haH)) ?_ ?_
    ·rintro i x σ H3 hx ⟨far,met,os,rfl,s4,hf,hm,hBf,hq,hd,hh⟩;obtain⟨p,hp,rfl⟩:∃p,r[i]?=some p/\iV p=x:=by
      rw[List.getElem?_map] at hx;cases e:r[i]? with
      |none=>rw[e] at hx;cases hx
      |some p=>rw[e] at hx;exact⟨p,rfl,Option.some.inj hx⟩
     have hpr:=List.mem_of_getElem? hp;obtain⟨sp,_,hsp,_,_⟩:=(hS.mem q p).mp ⟨r,hr',hpr⟩;have hpl:p < far.length:=by rw[hBf.Zcu];exact(List.getElem?_eq_some_iff.mp hsp).1
     obtain⟨o,ho⟩:∃o,far[p]?=some o:=⟨_,List.getElem?_eq_getElem hpl⟩
     have hop:(far.map Zaj)[p]?=some (Zaj o):=by rw[List.getElem?_map,ho];rfl
     have efr:Tl.fr far p=o:=by unfold Tl.fr;rw[ho];rfl
     have scl:ZeF (Zaj o) (V.int (-1))=true:=by cases o<;>rfl
     have snoc:∀{far':List (Option Nat)},(∀p'∈r.take i,∃e,Tl.fr far' p'=some e/\e<=d+1)->(∃e,Tl.fr far' p=some e/\e<=d+1)->∀p'∈r.take (i+1),∃e,Tl.fr far' p'=some e/\e<=d+1:=fun h1 h2 p' hp'=>by
      rw[List.take_add_one,hp] at hp';rcases List.mem_append.mp hp' with z|z
      ·exact h1 p' z
      ·have:p'=p:=by simpa using z
       rw[this];exact h2
     refine⟨_,rfl,_,rfl,lf,_,_,_,rfl,rfl,SqL.of hf,ZF hop,scl,_,rfl,?_⟩;cases o with
     |none =>
      obtain⟨hB2,_⟩:=hBf.meet hS hq hd hr' hpr efr;have hqf:(far.map Zaj)[q]?=some (iV d):=by
       have e1:far[q]?=some (some d):=by
        unfold Tl.fr at hd;cases e:far[q]? with
        |none=>rw[e] at hd;cases hd
        |some o=>rw[e] at hd;have:o=some d:=hd;rw[this]
       rw[List.getElem?_map,e1];rfl
      refine ifD rfl ⟨_,rfl,_,rfl,lf,_,_,_,rfl,rfl,SqL.of hf,ZF hqf,_,_,rfl,rfl,_,rfl,_,rfl,lf,_,_,p,rfl,rfl,hf,?_,?_⟩
      ·unfold ixN;rw[List.length_map,if_pos (by omega),if_pos (by omega)];rfl
      ·have eset:(far.map Zaj).set p (V.int (((d:Nat):Int)+1))=(far.set p (some (d+1))).map Zaj:=by rw[List.map_set];rfl
       rw[eset];have hm':upd H3 lf (.lst ((far.set p (some (d+1))).map Zaj)) lm=some (.lst (met.map iV)):=by rw[Zf hlfm.symm];exact hm
       refine⟨_,rfl,.inl ⟨rfl,_,SqL.of hm'⟩,_,rfl,lm,_,_,rfl,rfl,hm',by rw[map_len];have:=hBf.ZlZ;omega,?_⟩;refine⟨far.set p (some (d+1)),met++[p],_,rfl,fun b u e=>?_,?_,?_,hB2,?_,?_,snoc (fun p' hp'=>?_) ⟨d+1,Tl.ZfW hpl,Nat.le_refl _⟩⟩
       ·rw[Zf (Zk e hlmH),Zf (Zk e hlf)];exact s4 _ _ e
       ·rw[Zf hlfm,Zd]
       ·rw[Zd,List.map_append];rfl
       ·rw[List.getElem?_append_left (List.getElem?_eq_some_iff.mp hq).1];exact hq
       ·rw[Tl.ZfX (fun z=>by rw[z,hd] at efr;cases efr)];exact hd
       ·obtain⟨e,h1,h2⟩:=hh p' hp';refine⟨e,?_,h2⟩;rw[Tl.ZfX (fun z=>by rw[z,h1] at efr;cases efr)];exact h1
     |some e =>
      refine ifN (fun z=>by have:=ZjA.mp z;cases this) ?_;exact⟨far,met,_,rfl,s4,hf,hm,hBf,hq,hd,snoc hh ⟨e,efr,hBf.known hq hd efr⟩⟩
    ·rintro σ H3 ⟨far,met,os,rfl,s4,hf,hm,hBf,hq,hd,hh⟩;rw[List.length_map,List.take_length] at hh;refine⟨_,rfl,_,_,rfl,rfl,?_⟩;refine⟨_,?_,far,met,dn+1,_,_,rfl,rfl,s4,hf,hm,hBf.next hq hd hr' hh⟩;show l.length - (dn+1) < l.length - dn;omega
   ·refine ifN (by rw[map_len];omega) (exit _ _ ⟨op,os,_,rfl,s3,?_⟩);rw[hf,hBf.row hS hC (by omega)]
end
section
def ZjC(Ad:Ads)(Bd:Bds)(CM:Addr):Sp:=fun vs H Q E=>∃(tl:Addr)(t:Kgf1.Tale),vs=[.ref tl]/\ZaN Ad H tl t/\Za2 t/\(65536 < (Kgf2.come t).length->∀H',Zc H H'->E (.ref CM) none H')/\((Kgf2.come t).length<=65536->∀r H',Zc H H'->Zbj Bd H' r t (Kgf2.come t)->Q (.ref r) H')
theorem ZgF:Zo ["tale","reach","place"] ["tale"] (Zi ZjB):=⟨rfl,rfl,rfl,by decide +kernel,rfl,by decide +kernel,by decide +kernel⟩
theorem Zu6(D:Zj K mg "reach_of" ZjB f)(CR:Zv K Bd.re reachF)(CK:Zv K Bd.pk ZdH)(hlen:mg "len"=none)(F1:ZaS P w K mg base CX0 6 "Reach" Bd.re ["self","tale"] (ZnO Ad Bd))(F2:ZV P w K mg base (CX1 P w) 1 Bd.re "enter" ["self","state"] (Zjy Bd CM))
  (F3:Can P w K mg base (CX1 P w) 2 "visit" ["reach","place"] (ZnR Bd CM)) (F4:Can P w K mg base CX0 1 "measure" ["reach"] (ZnS Bd)):Can P w K mg base (CX1 P w) 8 "reach_of" ["tale"] (ZjC Ad Bd CM):=by
 refine D.Zap ZgF (fun _ _ _ _ _ _ us hl=>match us,hl with|[_],_=>rfl) (fun vs H Q E h=>?_) (fun cdv A outer s H vs Q E hr h=>?_)
 ·obtain⟨tl,t,rfl,_⟩:=h;rfl
 ·obtain⟨tl,t,rfl,hT,hg,k0,k1⟩:=h;have big:sizeLine=16777216:=by decide
  have eM:Kgf2.MOST=65536:=rfl;refine⟨_,Ze (Zx (i:=1) ZgF.nd rfl (Or.inl rfl) (Ze0 F1 hr Zs (Za (pv 0) Zb)))
   (Ze (ZK (Z8 (pv 1) CR.cl F2 hr (ZJ Zt) (Za (Zl (Zl (pv 1) rfl) rfl) Zb)))
   (Ze (Zx (i:=2) ZgF.nd rfl (Or.inl rfl) Zr)
   (Ze (ZbB (Throws.own Zt) (ZC Zcq (pv 2) (ZN Z0 (by rfl) hlen PySem.boot_len (Za (Zl (pv 1) rfl) Zb)) (Zz _))
    (Ze (ZK (Zp F3 hr (ZJ Zt) (Za (pv 1) (Za (pv 2) Zb)))) (Zh (ZbP (i:=2) ZgF.nd rfl (Or.inl rfl) Zr ZcK))))
   (Ze (Z4 (pv 1) (Zp F4 hr Zs (Za (pv 1) Zb)) rfl)
   (Zh (Zm (pv 1))))))),?_⟩
  refine⟨_,rfl,?_⟩;intro r dr hr1 hdr hne;refine⟨H,r,dr,tl,t,rfl,fun b u e=>by rw[Zf (Zk e hr1),Zf (Zk e hdr)];exact e,hr1,Zd,hT,hg,fun G H1 X eX gG hB=>⟨rfl,?_⟩⟩;subst eX;have hokf:=Tl.ZhZ hg.ft;obtain⟨pdx,lb,lo,ll,lm,pk1,_⟩:=id hB.pk;refine⟨_,rfl,X.r,X.dx,_,rfl,hB.ob,ZnM _ _ _ _ _ _ (by decide +kernel) (by decide +kernel) (by decide +kernel) (by decide +kernel) (by decide +kernel) (by decide +kernel),_,rfl,X.r,Bd.re,X.dx,_,_,rfl,hB.ob,CR.cl,CR.no _ (by decide +kernel),ZdJ ..,X.pa,Bd.pk,pdx,_,_,rfl,hB.gh _ _ pk1,CK.cl,CK.no _ (by decide +kernel),ZuI ..,
   G,X,t,[],[],[],Kgf1.first t,rfl,hB,fun y hy=>(by cases hy),hokf,by simp,by simp,rfl,fun h=>(by cases h),fun _ H2 hB2 _=>?_⟩
  have hB2:ZaA Bd G H2 X t [Kgf1.first t] [[]] []:=hB2;refine ZbK (fun m σ H'=>∃(n:Nat)(l:List Kgf1.St)(src:List (List Nat)),m=65536 - n/\σ=[some (.ref tl),some (.ref X.r),some (iV n)]/\ZaA Bd G H' X t l src ((l.take n).map (Kgf1.status t))/\Tl.Walk t n l/\Tl.ZcW t n l src/\(∀y∈l,Tl.Ok (Tl.Zg t) y)/\l.length<=65536)
   (fun σ H'=>∃(n:Nat)(l:List Kgf1.St)(src:List (List Nat)),σ=[some (.ref tl),some (.ref X.r),some (iV n)]/\ZaA Bd G H' X t l src ((l.take n).map (Kgf1.status t))/\Tl.Walk t n l/\Tl.ZcW t n l src/\l.length<=n/\l.length<=65536) ?_ ?_ ?_
  ·exact⟨_,0,[Kgf1.first t],[[]],rfl,rfl,hB2,Tl.Zlw t,Tl.ZrW t,fun y hy=>by
    have:y=Kgf1.first t:=by simpa using hy
    rw[this];exact hokf,by show 1<=65536;omega⟩
  ·rintro σ H' ⟨n,l,src,rfl,hB',hW,hS,hln,hle⟩;have ec:=hW.done hln (by rw[eM];exact hle);have ncl:=hW.closed hln;rw[List.take_of_length_le hln] at hB';refine⟨_,rfl,G,X,t,l,src,rfl,hB',hS.ZrX hln,ncl,hle,fun p H2 s2 hpn hp=>?_⟩;have ob2:=s2 _ _ hB'.ob;refine⟨_,rfl,X.r,Bd.re,X.dx,_,rfl,ob2,CR.cl,CR.no _ (by decide +kernel),(by show 6 < 1000;decide),?_⟩;rw[ZuR];refine⟨_,rfl,?_⟩;have kp:∀{b:Addr}{u:HO},H2 b=some u->b≠X.r->upd H2 X.r (.ins Bd.re X.dx (Zbh (.ref X.pa) (.ref X.st) (.ref X.pl) (.ref X.so) (.ref X.ss) (.ref p))) b=some u:=fun e n=>by rw[Zf n];exact e
   rw[ec] at k1;have gs:Zc G (upd H2 X.r (.ins Bd.re X.dx (Zbh (.ref X.pa) (.ref X.st) (.ref X.pl) (.ref X.so) (.ref X.ss) (.ref p)))):=fun b u e=>kp (s2 _ _ (hB'.gh _ _ e)) (Zk e hB'.gr);refine k1 hle X.r _ (gG.trans gs) ⟨⟨X.r,X.dx,X.pa,X.st,X.pl,X.so,X.ss,p⟩,rfl,Zd,hB'.pk.same gs,kp (s2 _ _ hB'.st) (hB'.nrl hB'.st).symm,kp (s2 _ _ hB'.pl) (Z6 hB'.pl hB'.ob (by intro z;cases z)),kp (s2 _ _ hB'.ss) (hB'.nrl hB'.ss).symm,kp hp (Z6 hp ob2 (by intro z;cases z))⟩
  ·rintro exit m σ H' ⟨n,l,src,rfl,rfl,hB',hW,hS,hall,hle⟩;have hll:(l.map fun x=>iV (Tl.pk (Tl.Zg t) x)).length=l.length:=List.length_map _;refine⟨_,rfl,_,rfl,X.r,Bd.re,X.dx,_,_,rfl,hB'.ob,CR.cl,CR.no _ (by decide +kernel),ZdK ..,X.st,_,rfl,.inl (SqL.of hB'.st),_,_,rfl,rfl,_,rfl,?_⟩;by_cases hn:n < l.length
   ·refine ZcY (decide_eq_true (by rw[hll];omega)) ?_;obtain⟨st,hst⟩:∃st,l[n]?=some st:=⟨_,List.getElem?_eq_getElem hn⟩
    have hW2:=hW.turn hst (by rw[eM];omega);refine⟨_,rfl,_,rfl,G,X,t,l,src,(l.take n).map (Kgf1.status t),n,st,rfl,hB',hg,hall,hst,hS,hle,by rw[List.length_map,List.length_take];omega,fun hbig H2 s2=>k0 ?_ H2 (gG.trans s2),fun hle2 H2 src2 hB2 hS2=>?_⟩
    ·have:=hW2.many (by rw[eM];omega) (by rw[eM];exact hbig);rw[eM] at this;exact this
    ·refine⟨_,rfl,_,_,rfl,rfl,?_⟩;have hpre:=Tl.Zd5 (Kgf2.after t st) l;refine⟨_,?_,n+1,(Kgf2.after t st).foldl Kgf2.add l,src2,rfl,rfl,?_,hW2,hS2,?_,hle2⟩
     ·show 65536 - (n+1) < 65536 - n;omega
     ·have e:((Kgf2.after t st).foldl Kgf2.add l).take (n+1)=l.take n++[st]:=by
       obtain⟨rest,er⟩:=hpre;rw[←er,List.take_append_of_le_length (by omega),List.take_add_one,hst];rfl
      rw[e,List.map_append];exact hB2
     ·refine Tl.Zl5 hall fun y hy=>?_;obtain⟨j,_,ej⟩:=Tl.ZhW hy;exact Tl.Zl4 (fun x hx=>(hg.wf x hx).d) (hall st (List.mem_of_getElem? hst)) ej
   ·exact ifN (by rw[hll];omega) (exit _ _ ⟨n,l,src,rfl,hB',hW,hS,by omega,hle⟩)
abbrev ZjD:Stmt:=top 88
abbrev ZjE:Stmt:=top 89
abbrev ZgG:Stmt:=top 90
abbrev ZgH:Stmt:=top 91
structure Found(t:Kgf1.Tale)(l:List Kgf1.St):Prop where
 g:Za2 t
 ok:∀y∈l,Tl.Ok (Tl.Zg t) y
 cl:Tl.Za6 t l
 nd:l.Nodup
 le:l.length<=65536
def ZnT(K:PySem.W.Frag)(Bd:Bds):Sp:=fun vs H Q _=>∃(r ln:Addr)(t:Kgf1.Tale)(l:List Kgf1.St)(ns:List Nat),vs=[.ref r,.ref ln]/\Zbj Bd H r t l/\Found t l/\SqL K H ln (ns.map iV)/\ns.length=24 /\
 (∀y i H',(l.find? fun y=>Kgf2.flat y==ns)=some y->l[i]?=some y->Zc H H'->Q (iV i) H')/\((l.find? fun y=>Kgf2.flat y==ns)=none->∀H',Zc H H'->Q .non H')
theorem ZnU:Zo ["reach","numbers","bits"] ["reach","numbers"] (Zi ZjD):=⟨rfl,rfl,rfl,by decide +kernel,rfl,by decide +kernel,by decide +kernel⟩
theorem Zu7(D:Zj K mg "place_of" ZjD f)(CR:Zv K Bd.re reachF)(CK:Zv K Bd.pk ZdH)(F1:Can P w K mg base CX0 1 "is_state" ["bits","numbers"] (Zny K))(F2:Can P w K mg base CX0 1 "packed_state" ["bits","numbers"] (Zjl K)) :
  Can P w K mg base CX0 2 "place_of" ["reach","numbers"] (ZnT K Bd):=by
 refine D.can ZnU (fun _ _ _ _ _ _ us hl=>match us,hl with|[_,_],_=>rfl) (fun vs H Q E h=>?_) (fun cdv A outer s H vs Q E hr h=>?_)
 ·obtain⟨r,ln,t,l,ns,rfl,_⟩:=h;rfl
 ·obtain⟨r,ln,t,l,ns,rfl,hR,hF,hN,h24,k1,k2⟩:=h;have hu:=hu1 hr;obtain⟨X,rfl,x1,x2,x3,x4,x5,x6⟩:=hR.ex;obtain⟨pdx,lb,lo,ll,lm,pk1,pk2,_⟩:=x2;refine⟨_,Ze (Zx (i:=2) ZnU.nd rfl (Or.inl rfl) (Zl (Zl (pv 0) rfl) rfl))
   (Ze (Zy (ZcI (Zam (Zp F1 hr Zs (Za (pv 2) (Za (pv 1) Zb))))) (Zh (Zm ZdN)) ZD)
   (Zh (Zm (ZqA hu (Zl (pv 0) rfl) (Zp F2 hr Zs (Za (pv 2) (Za (pv 1) Zb))) ⟨rfl,rfl,rfl,rfl⟩)))),?_⟩
  have hz:=hF.g.sz;obtain⟨ff1,ff2⟩:=Tl.Zr3 h24 hz.len hF.ok;refine⟨_,rfl,X.r,Bd.re,X.dx,_,_,rfl,x1,CR.cl,CR.no _ (by decide +kernel),ZdJ ..,X.pa,Bd.pk,pdx,_,_,rfl,pk1,CK.cl,CK.no _ (by decide +kernel),Zjp ..,_,rfl,_,rfl,lb,ln,Tl.Zg t,ns,rfl,pk2,hN,fun his H1 s1=>⟨_,rfl,?_⟩,fun his H1 s1=>⟨_,rfl,?_⟩⟩
  ·refine ifF rfl ?_;obtain⟨hok,_⟩:=Tl.Zl3 h24 hz.len his;have eF:=ff1 his;refine⟨_,rfl,X.r,Bd.re,X.dx,_,_,rfl,s1 _ _ x1,CR.cl,CR.no _ (by decide +kernel),Zfc ..,X.pl,rfl,.inl ⟨_,.inl (s1 _ _ x4)⟩,_,rfl,_,rfl,lb,ln,Tl.Zg t,ns,rfl,pk2.same s1,s1.seq hN,hz,hok,fun H2 s2=>⟨_,Zas.k (k:=Sum.inl ((Tl.pk (Tl.Zg t) ns:Nat):Int)) (s2 _ _ (s1 _ _ x4)),?_⟩⟩;rw[←Tl.Zr2,Zfe hF.ok hok];by_cases hin:ns.take (Tl.Zg t).length∈l
   ·rw[if_pos hin] at eF ⊢;exact k1 _ _ H2 eF (Tl.Zd6 hin) (s1.trans s2)
   ·rw[if_neg hin] at eF ⊢;exact k2 eF H2 (s1.trans s2)
  ·exact ifB rfl (k2 (ff2 his) H1 s1)
def ZnV(Bd:Bds):Sp:=fun vs H Q _=>∃(r:Addr)(i:Nat)(t:Kgf1.Tale)(l:List Kgf1.St)(st:Kgf1.St),vs=[.ref r,iV i]/\Zbj Bd H r t l/\Found t l/\l[i]?=some st/\∀p H',Zc H H'->H' p=some (.lst ((Kgf2.flat st).map iV))->Q (.ref p) H'
theorem Zu8:Zo ["reach","place"] ["reach","place"] (Zi ZjE):=⟨rfl,rfl,rfl,by decide +kernel,rfl,by decide +kernel,by decide +kernel⟩
theorem Zu9(D:Zj K mg "numbers_at" ZjE f)(CR:Zv K Bd.re reachF)(CK:Zv K Bd.pk ZdH)(F1:Can P w K mg base CX0 1 "numbers_of" ["bits","state"] ZnB):Can P w K mg base CX0 2 "numbers_at" ["reach","place"] (ZnV Bd):=by
 refine D.can Zu8 (fun _ _ _ _ _ _ us hl=>match us,hl with|[_,_],_=>rfl) (fun vs H Q E h=>?_) (fun cdv A outer s H vs Q E hr h=>?_)
 ·obtain⟨r,i,t,l,st,rfl,_⟩:=h;rfl
 ·obtain⟨r,i,t,l,st,rfl,hR,hF,hi,k⟩:=h;obtain⟨X,rfl,x1,x2,x3,x4,x5,x6⟩:=hR.ex;obtain⟨pdx,lb,lo,ll,lm,pk1,pk2,_⟩:=x2;have hit:(l.map fun x=>iV (Tl.pk (Tl.Zg t) x))[i]?=some (iV (Tl.pk (Tl.Zg t) st)):=by rw[List.getElem?_map,hi];rfl
  refine⟨_,Zh (Zm (Zp F1 hr Zs (Za (Zl (Zl (pv 0) rfl) rfl) (Za (ZG ZO (Zl (pv 0) rfl) (pv 1) (fun _ _=>rfl)) Zb)))),?_⟩;exact⟨_,rfl,X.r,Bd.re,X.dx,_,_,rfl,x1,CR.cl,CR.no _ (by decide +kernel),ZdJ ..,X.pa,Bd.pk,pdx,_,_,rfl,pk1,CK.cl,CK.no _ (by decide +kernel),Zjp ..,_,rfl,X.r,Bd.re,X.dx,_,_,rfl,x1,CR.cl,CR.no _ (by decide +kernel),ZdK ..,_,rfl,X.st,_,_,_,rfl,rfl,SqL.of x3,ZF hit,lb,Tl.Zg t,st,rfl,pk2,hF.g.sz,hF.ok st (List.mem_of_getElem? hi),k⟩
end
section
def ZnW(Bd:Bds):Sp:=fun vs H Q _=>∃(r:Addr)(t:Kgf1.Tale)(l:List Kgf1.St),vs=[.ref r]/\Zbj Bd H r t l/\Found t l/\∀p H',Zc H H'->H p=none->H' p=some (.lst ((Tl.ZbJ t l).map iV))->Q (.ref p) H'
theorem ZgI:Zo ["reach","place","status"] ["reach"] (Zi ZgH):=⟨rfl,rfl,rfl,by decide +kernel,rfl,by decide +kernel,by decide +kernel⟩
def Zva:Scope:={ kind:=.function,names:=[(".0",.local),("place",.local),("status",.local),("GOES_ON",.globalImplicit),("NOT_ANY",.globalImplicit),("reach",.free)],isGenerator:=false,isCoroutine:=false }
theorem Zvb:ZaT ["reach","place","status"] (Zi ZgH) Zva [("place",1),("status",2)]:=⟨rfl,by decide +kernel,by decide +kernel,by decide +kernel,by decide +kernel⟩
theorem Zvc(D:Zj K mg "stuck_places" ZgH f)(CR:Zv K Bd.re reachF)(henum:mg "enumerate"=none)(hGO:GI mg "GOES_ON" 0)(hNA:GI mg "NOT_ANY" (-1)):Can P w K mg base CX0 1 "stuck_places" ["reach"] (ZnW Bd):=by
 refine D.can ZgI (fun _ _ _ _ _ _ us hl=>match us,hl with|[_],_=>rfl) (fun vs H Q E h=>?_) (fun cdv A outer s H vs Q E hr h=>?_)
 ·obtain⟨r,t,l,rfl,_⟩:=h;rfl
 ·obtain⟨r,t,l,rfl,hR,hF,k⟩:=h;have big:sizeLine=16777216:=by decide
  have hle:=hF.le;obtain⟨X,rfl,x1,x2,x3,x4,x5,x6⟩:=hR.ex;refine⟨_,Zh (Zm (Zbr (own:=[("place",1),("status",2)]) (g:=Zdf K 2 (Zbn (ZaP 1) (Zbn (ZaP 2) Zde))) (tt:=Zj3 (ZcL (tOp rEq (ZH 2) (tC (.int 0)))) (ZcL (tOp rEq (tOp (Zdl K) (Zbo K (ZH 0) "far") (ZH 1)) (tC (.int (-1)))))) (te:=ZH 1) rfl ZgI.nd (ZeN (by rfl) henum (Za (Zl (pv 0) rfl) Zb)) Zvb
   (fun _ _ _ _ _=>ZbA rfl (Zal (ZL (i:=1) ZgI.nd rfl (Or.inl rfl) (Or.inr rfl)) (Zal (ZL (i:=2) ZgI.nd rfl (Or.inl rfl) (Or.inr rfl)) Zbz)))
   (fun _ _ _ _ _=>ZeK (ZdR (ZC Z9 (pv 2) (Zu hGO) (Zz _)) (ZdQ (ZC Z9 (ZG ZO (Zl (pv 0) rfl) (pv 1) (fun _ _=>rfl)) (Zu hNA) (Zz _)))).pt) (fun _ _ _ _ _=>pv 1))),?_⟩
  have stat_at:∀{i:Nat}{v:V},((l.map (Kgf1.status t)).map iV)[i]?=some v->∃s,l[i]?=some s/\v=iV (Kgf1.status t s):=fun{i v} h=>by
   rw[List.getElem?_map,List.getElem?_map] at h;cases e:l[i]? with
   |none=>rw[e] at h;cases h
   |some s=>rw[e] at h;exact⟨s,rfl,(Option.some.inj h).symm⟩
  have hsl:((l.map (Kgf1.status t)).map iV).length=l.length:=by rw[List.length_map,List.length_map]
  refine⟨_,rfl,X.r,Bd.re,X.dx,_,_,rfl,x1,CR.cl,CR.no _ (by decide +kernel),Zfd ..,X.ss,_,rfl,SqL.of x5,fun Dl hD=>?_⟩;refine Zep (n:=l.length) (fun i H'=>Zc H H'/\H' Dl=some (.lst (((List.range i).filter fun p=>decide (Kgf1.status t (l.getD p [])=0/\Kgf2.far t l (l.getD p [])=none)).map iV))/\i<=l.length) ⟨Zq hD,Zd,Nat.zero_le _⟩ ?_ ?_ ?_ ?_
  ·rintro i H' hi ⟨s2,_⟩;exact⟨_,_,SqL.of (s2 _ _ x5),List.getElem?_eq_getElem (by rw[hsl];exact hi)⟩
  ·rintro H' ⟨s2,_⟩;exact⟨_,SqL.of (s2 _ _ x5),by rw[hsl];exact Nat.le_refl _⟩
  ·rintro i H' x H2 hi ⟨s2,hl2,_⟩ ⟨T,b,rfl,hT,rfl,hb⟩;obtain⟨s,hs,rfl⟩:=stat_at (hb _ (SqL.of (s2 _ _ x5)));have s3:Zc H' (upd H' T (.tup [.int (i:Nat),iV (Kgf1.status t s)])):=Zq hT;have egd:l.getD i []=s:=Tl.getD_at hs;have er:((List.range (i+1)).filter fun p=>decide (Kgf1.status t (l.getD p [])=0/\Kgf2.far t l (l.getD p [])=none))=((List.range i).filter fun p=>decide (Kgf1.status t (l.getD p [])=0/\Kgf2.far t l (l.getD p [])=none))++(if Kgf1.status t s=0/\Kgf2.far t l s=none then[i] else[]):=by
    rw[List.range_succ,List.filter_append];congr 1;rw[List.filter_cons,egd];by_cases hw:Kgf1.status t s=0/\Kgf2.far t l s=none
    ·rw[if_pos hw,if_pos (decide_eq_true hw)];rfl
    ·rw[if_neg hw,if_neg (by rw[decide_eq_true_eq];exact hw)];rfl
   have hlt:(((List.range i).filter fun p=>decide (Kgf1.status t (l.getD p [])=0/\Kgf2.far t l (l.getD p [])=none)).map iV).length < sizeLine:=by
    rw[map_len];have:=List.length_filter_le (fun p=>decide (Kgf1.status t (l.getD p [])=0/\Kgf2.far t l (l.getD p [])=none)) (List.range i);rw[List.length_range] at this;omega
   have hfar:((l.map (Kgf2.far t l)).map Zaj)[i]?=some (Zaj (Kgf2.far t l s)):=by rw[List.getElem?_map,List.getElem?_map,hs];rfl
   have scl:ZeF (Zaj (Kgf2.far t l s)) (V.int (-1))=true:=by cases Kgf2.far t l s<;>rfl
   have no:¬(Kgf1.status t s=0/\Kgf2.far t l s=none)->Zc H (upd H' T (.tup [.int (i:Nat),iV (Kgf1.status t s)]))/\upd H' T (.tup [.int (i:Nat),iV (Kgf1.status t s)]) Dl=some (.lst (((List.range (i+1)).filter fun p=>decide (Kgf1.status t (l.getD p [])=0/\Kgf2.far t l (l.getD p [])=none)).map iV))/\i+1<=l.length:=fun hn =>
    ⟨s2.trans s3,by rw[s3 _ _ hl2,er,if_neg hn,List.append_nil],hi⟩
   refine⟨T,_,rfl,SqT.of Zd,rfl,_,_,rfl,_,_,rfl,rfl,rfl,?_⟩;refine⟨_,rfl,rfl,_,rfl,?_⟩;by_cases h0:Kgf1.status t s=0
   ·refine ifD (by rw[h0];rfl) ⟨_,rfl,X.r,Bd.re,X.dx,_,_,rfl,s3 _ _ (s2 _ _ x1),CR.cl,CR.no _ (by decide +kernel),ZgD ..,_,rfl,X.fa,_,_,_,rfl,rfl,SqL.of (s3 _ _ (s2 _ _ x6)),ZF hfar,scl,_,rfl,?_⟩;by_cases hf:Kgf2.far t l s=none
    ·refine ifD (ZjA.mpr hf) ⟨_,rfl,_,s3 _ _ hl2,hlt,fun a u e=>?_,?_,hi⟩
     ·rw[Zf (Zk e hD)];exact s3 _ _ (s2 _ _ e)
     ·rw[Zd,er,if_pos ⟨h0,hf⟩,List.map_append];rfl
    ·exact ifN (fun z=>hf (ZjA.mp z)) (no fun z=>hf z.2)
   ·refine ifN (fun z=>h0 (by have:=Zau.mp z;omega)) ?_;refine ZW ?_;exact no fun z=>h0 z.1
  ·rintro H' ⟨s2,hl2,_⟩;exact k Dl H' s2 hD hl2
def ZnX(Bd:Bds):Sp:=fun vs H Q _=>∃(r:Addr)(i n:Nat)(t:Kgf1.Tale)(l:List Kgf1.St)(st:Kgf1.St),vs=[.ref r,iV i]/\Zbj Bd H r t l/\Found t l/\l[i]?=some st/\Kgf2.far t l st=some (n+1)/\∀m H',Kgf2.best t l st (n+1)=some m->Zc H H'->Q (iV m) H'
theorem Zev:Zo ["reach","place","nearer","turns","behind","number"] ["reach","place"] (Zi ZgG):=⟨rfl,rfl,rfl,by decide +kernel,rfl,by decide +kernel,by decide +kernel⟩
def Zvd:Scope:={ kind:=.function,names:=[(".0",.local),("behind",.local),("number",.local),("nearer",.free),("reach",.free)],isGenerator:=false,isCoroutine:=false }
theorem Zve:ZaT ["reach","place","nearer","turns","behind","number"] (Zi ZgG) Zvd [("behind",4),("number",5)]:=⟨rfl,by decide +kernel,by decide +kernel,by decide +kernel,by decide +kernel⟩
theorem boot_min:bootBuiltins "min"=some (.builtin "min"):=by decide +kernel
theorem Zvf{o:Option Nat}{n:Nat}:Zaj o=iV n↔o=some n:=by
 cases o with
 |none =>
  constructor
  ·intro h;have:(-1:Int)=((n:Nat):Int):=V.int.inj h;omega
  ·intro h;cases h
 |some m =>
  constructor
  ·intro h;have:((m:Nat):Int)=((n:Nat):Int):=V.int.inj h;congr 1;omega
  ·intro h;cases h;rfl
theorem Zvg(D:Zj K mg "nearer_when" ZgG f)(CR:Zv K Bd.re reachF)(hmin:mg "min"=none)(F1:Can P w K mg base CX0 1 "turns_from" ["packed","state"] (Zju Bd)):Can P w K mg base CX0 2 "nearer_when" ["reach","place"] (ZnX Bd):=by
 refine D.can Zev (fun _ _ _ _ _ _ us hl=>match us,hl with|[_,_],_=>rfl) (fun vs H Q E h=>?_) (fun cdv A outer s H vs Q E hr h=>?_)
 ·obtain⟨r,i,n,t,l,st,rfl,_⟩:=h;rfl
 ·obtain⟨r,i,n,t,l,st,rfl,hR,hF,hi,hfar,k⟩:=h;have big:sizeLine=16777216:=by decide
  have hu:=hu1 hr;obtain⟨X,rfl,x1,x2,x3,x4,x5,x6⟩:=hR.ex;have hmem:=List.mem_of_getElem? hi;have hok:=hF.ok st hmem;obtain⟨hst0,_⟩:=Tl.Zl0 hF.cl hmem hfar;have hc0:=Tl.ZrY hF.cl hmem hfar;refine⟨_,Ze (Zx (i:=2) Zev.nd rfl (Or.inr rfl) (ZY Zb5 (ZG ZO (Zl (pv 0) rfl) (pv 1) (fun _ _=>rfl)) Zr))
   (Ze (Zx (i:=3) Zev.nd rfl (Or.inl rfl) (Zp F1 hr Zs (Za (Zl (pv 0) rfl) (Za (ZG ZO (Zl (pv 0) rfl) (pv 1) (fun _ _=>rfl)) Zb))))
   (Zh (Zm (ZqF (ZN (Zp5 rfl) (by rfl) hmin boot_min (Za (Zbr (own:=[("behind",4),("number",5)]) (g:=Zdf K 2 (Zbn (ZaP 4) (Zbn (ZaP 5) Zde))) (tt:=ZcL (tOp rEq (tOp (Zdl K) (Zbo K (ZH 0) "far") (ZfD (Zbo K (ZH 0) "places") (ZH 4))) (ZH 2))) (te:=ZH 5) rfl Zev.nd (ZqM (pv 3)) Zve
    (fun _ _ _ _ _=>ZbA rfl (Zal (ZL (i:=4) Zev.nd rfl (Or.inl rfl) (Or.inr rfl)) (Zal (ZL (i:=5) Zev.nd rfl (Or.inl rfl) (Or.inr rfl)) Zbz)))
    (fun _ _ _ _ _=>ZeK (ZC Z9 (ZG ZO (Zl (pv 0) rfl) (ZeL hu (Zl (pv 0) rfl) (pv 4) (fun _ _=>rfl)) (fun _ _=>rfl)) (pv 2) (Zz _))) (fun _ _ _ _ _=>pv 5)) Zb)))))),?_⟩
  have hf1:((l.map (Kgf2.far t l)).map Zaj)[i]?=some (iV (n+1)):=by rw[List.getElem?_map,List.getElem?_map,hi];show some (Zaj (Kgf2.far t l st))=_;rw[hfar];rfl
  have hs1:(l.map fun x=>iV (Tl.pk (Tl.Zg t) x))[i]?=some (iV (Tl.pk (Tl.Zg t) st)):=by rw[List.getElem?_map,hi];rfl
  refine⟨_,rfl,X.r,Bd.re,X.dx,_,_,rfl,x1,CR.cl,CR.no _ (by decide +kernel),ZgD ..,_,rfl,X.fa,_,_,_,rfl,rfl,SqL.of x6,ZF hf1,_,_,rfl,rfl,?_⟩;refine⟨_,rfl,X.r,Bd.re,X.dx,_,_,rfl,x1,CR.cl,CR.no _ (by decide +kernel),ZdJ ..,_,rfl,X.r,Bd.re,X.dx,_,_,rfl,x1,CR.cl,CR.no _ (by decide +kernel),ZdK ..,_,rfl,X.st,_,_,_,rfl,rfl,SqL.of x3,ZF hs1,X.pa,t,st,rfl,x2,hF.g,hok,fun d hd=>?_⟩;refine⟨d,_,Zd,True.intro,fun od=>?_⟩;rw[Z5];have g0:Zc H (upd H d (.frz od (.dK (ZaD (Tl.Zg t) (Tl.ZI t st t.whens.length))))):=Zq hd;have hd1:upd H d (.frz od (.dK (ZaD (Tl.Zg t) (Tl.ZI t st t.whens.length)))) d=some (.frz od (.dK (ZaD (Tl.Zg t) (Tl.ZI t st t.whens.length)))):=Zd;have hfit:∀x∈t.whens,Tl.Fits (Tl.Zg t) x.change:=fun x hx=>(hF.g.wf x hx).d;have htok:=Tl.Zec hfit hok t.whens.length;have hw128:t.whens.length<=128:=(Zck.mp hF.g.ok).2.1.2;have htl:=Tl.ZhR t st t.whens.length;have hin:∀y∈Tl.ZI t st t.whens.length,y.1∈l:=fun y hy=>hF.cl st y.1 hmem ((Tl.ZlW hst0).mp (List.mem_map.mpr ⟨y,hy,rfl⟩));have hbest:=fun m hm hmin'=>Tl.ZrZ (t:=t) (l:=l) (s:=st) (n:=n+1) (m:=m) hst0 hm hmin';have ecands:Tl.cands t l st (n+1)=((Tl.ZI t st t.whens.length).filter fun y=>Kgf2.far t l y.1==some n).map Prod.snd:=rfl;have hkey:∀m:Nat,(ZaD (Tl.Zg t) (Tl.ZI t st t.whens.length))[m]?=((Tl.ZI t st t.whens.length)[m]?).map fun y=>((Sum.inl ((Tl.pk (Tl.Zg t) y.1:Nat):Int):Key),iV y.2):=fun m=>by unfold ZaD;rw[List.getElem?_map]
  have hklen:(ZaD (Tl.Zg t) (Tl.ZI t st t.whens.length)).length=(Tl.ZI t st t.whens.length).length:=by unfold ZaD;rw[List.length_map]
  generalize ZaD (Tl.Zg t) (Tl.ZI t st t.whens.length)=kvs at g0 hd1 hkey hklen;generalize hH1:upd H d (.frz od (.dK kvs))=H1 at g0 hd1;clear hH1;refine⟨_,rfl,d,od,kvs,rfl,hd1,fun Dl hD=>?_⟩;refine Zep (n:=kvs.length) (fun m H'=>Zc H1 H'/\H' Dl=some (.lst ((((Tl.ZI t st t.whens.length).take m).filter fun y=>Kgf2.far t l y.1==some n).map fun y=>iV y.2))/\m<=kvs.length) ⟨Zq hD,Zd,Nat.zero_le _⟩ ?_ ?_ ?_ ?_
  ·rintro m H' hm ⟨s2,_⟩;exact⟨s2 _ _ hd1,hm⟩
  ·rintro H' ⟨s2,_⟩;exact⟨s2 _ _ hd1,Nat.le_refl _⟩
  ·rintro m H' x H2 hm ⟨s2,hl2,_⟩ ⟨T,key,v,hkv,rfl,hT,rfl⟩;rw[hkey] at hkv;cases ey:(Tl.ZI t st t.whens.length)[m]? with
   |none=>rw[ey] at hkv;cases hkv
   |some y =>
   rw[ey] at hkv;obtain⟨rfl,rfl⟩:key=Sum.inl ((Tl.pk (Tl.Zg t) y.1:Nat):Int)/\v=iV y.2:=by
    have:=Option.some.inj hkv;exact⟨(congrArg Prod.fst this).symm,(congrArg Prod.snd this).symm⟩
   have hym:=List.mem_of_getElem? ey;have s3:Zc H' (upd H' T (.tup [kV (Sum.inl ((Tl.pk (Tl.Zg t) y.1:Nat):Int)),iV y.2])):=Zq hT;have s13:Zc H (upd H' T (.tup [kV (Sum.inl ((Tl.pk (Tl.Zg t) y.1:Nat):Int)),iV y.2])):=(g0.trans s2).trans s3;have hdg:=Zas.k (k:=Sum.inl ((Tl.pk (Tl.Zg t) y.1:Nat):Int)) (s13 _ _ x4);rw[Zfe hF.ok (htok y hym),if_pos (hin y hym)] at hdg;have hfy:((l.map (Kgf2.far t l)).map Zaj)[l.idxOf y.1]?=some (Zaj (Kgf2.far t l y.1)):=by rw[List.getElem?_map,List.getElem?_map,Tl.Zd6 (hin y hym)];rfl
   have en:(V.int (((n+1:Nat):Int) - 1))=iV n:=by
    show V.int _=V.int _;congr 1;push_cast;omega
   have scl:ZeF (Zaj (Kgf2.far t l y.1)) (V.int (((n+1:Nat):Int) - 1))=true:=by cases Kgf2.far t l y.1<;>rfl
   have er:((Tl.ZI t st t.whens.length).take (m+1)).filter (fun y=>Kgf2.far t l y.1==some n)=((Tl.ZI t st t.whens.length).take m).filter (fun y=>Kgf2.far t l y.1==some n)++(if Kgf2.far t l y.1=some n then[y] else[]):=by
    rw[List.take_add_one,ey,List.filter_append];congr 1;show List.filter _ [y]=_;rw[List.filter_cons];by_cases hw:Kgf2.far t l y.1=some n<;>simp[hw]
   refine⟨T,_,rfl,SqT.of Zd,rfl,_,_,rfl,_,_,rfl,rfl,rfl,?_⟩;refine⟨_,rfl,X.r,Bd.re,X.dx,_,_,rfl,s13 _ _ x1,CR.cl,CR.no _ (by decide +kernel),ZgD ..,_,rfl,X.r,Bd.re,X.dx,_,_,rfl,s13 _ _ x1,CR.cl,CR.no _ (by decide +kernel),Zfc ..,_,rfl,X.pl,_,rfl,hdg,X.fa,_,_,_,rfl,rfl,SqL.of (s13 _ _ x6),ZF hfy,_,rfl,scl,_,rfl,?_⟩;by_cases hw:Kgf2.far t l y.1=some n
   ·refine ifD (by rw[hw];exact en.symm) ⟨_,rfl,_,s3 _ _ hl2,?_,fun a u e=>?_,?_,hm⟩
    ·rw[List.length_map];have:=List.length_filter_le (fun y=>Kgf2.far t l y.1==some n) ((Tl.ZI t st t.whens.length).take m);rw[List.length_take] at this;omega
    ·rw[Zf (Zk e hD)];exact s3 _ _ (s2 _ _ e)
    ·rw[Zd,er,if_pos hw,List.map_append];rfl
   ·refine ifN (fun z=>hw (Zvf.mp (z.trans en))) ⟨s2.trans s3,?_,hm⟩;rw[s3 _ _ hl2,er,if_neg hw,List.append_nil]
  ·rintro H' ⟨s2,hl2,_⟩;rw[hklen,List.take_length] at hl2;have el:(((Tl.ZI t st t.whens.length).filter fun y=>Kgf2.far t l y.1==some n).map fun y=>iV y.2)=((Tl.cands t l st (n+1)).map fun(k:Nat)=>(k:Int)).map V.int:=by rw[ecands,List.map_map,List.map_map];rfl
   rw[el] at hl2;refine⟨Dl,_,rfl,SqL.of hl2,by rw[List.length_map];exact hc0,fun m hm hmn=>⟨s2 _ _ hd1,?_⟩⟩;obtain⟨j,hj,rfl⟩:=List.mem_map.mp hm;refine k j _ (hbest j hj fun y hy=>?_) fun a u e=>?_
   ·have:=hmn (y:Int) (List.mem_map.mpr ⟨y,hy,rfl⟩);omega
   ·rw[Zf (Zk e hd)];exact s2 _ _ (g0 _ _ e)
end
abbrev Zc8:List Str:=["tale","now"]
def ZR(a b:V):List (Str×V):=[("tale",a),("now",b)]
theorem Zfh(a b:V):(ZR a b).lookup ("tale":Str)=some a:=Zaa
theorem Zc9(a b:V):(ZR a b).lookup ("now":Str)=some b:=(ZA (by decide +kernel)).trans Zaa
theorem Zfi(a b:V){m:Str}(h1:(m==("tale":Str))=false)(h2:(m==("now":Str))=false):(ZR a b).lookup m=none:=(ZA h1).trans (ZA h2)
theorem Zvh(a b c:V):Zw "tale" c (ZR a b)=ZR c b:=by
 unfold ZR;rw[Zel]
theorem ZjF(a b c:V):Zw "now" c (ZR a b)=ZR a c:=by
 unfold ZR;rw[ZE (by decide +kernel),Zel]
def Zfj(Ad:Ads)(F:Hp)(tv:V)(ln:Addr):Option Kgf1.Abs->Prop
 |none=>tv=.non
 |some x=>∃tl st,tv=.ref tl/\ZaN Ad F tl x.t/\Za2 x.t/\F ln=some (.lst (st.map iV))/\st.length=x.t.vars.length/\∀s,x.s=some s->s=st
theorem Zfj.same{Ad:Ads}{F F':Hp}{tv:V}{ln:Addr}{a:Option Kgf1.Abs}(s:Zc F F')(h:Zfj Ad F tv ln a):Zfj Ad F' tv ln a:=by
 cases a with
 |none=>exact h
 |some x =>
  obtain⟨tl,st,e,h1,h2,h3,h4⟩:=h;exact⟨tl,st,e,h1.same s,h2,s _ _ h3,h4⟩
def ZcC(a:Kgf1.Ans):List V:=V.int a.value::a.out.map iV
abbrev ZjG:Stmt:=inClass (top 112) 0
abbrev ZjH:Stmt:=inClass (top 112) 1
abbrev ZjI:Stmt:=inClass (top 112) 2
abbrev ZjJ:Stmt:=inClass (top 112) 3
abbrev ZjK:Stmt:=inClass (top 112) 4
abbrev ZjL:Stmt:=inClass (top 112) 5
def Zb1(Ad:Ads)(Bd:Bds)(H:Hp)(p:Addr)(a:Option Kgf1.Abs)(c:Kgf1.Call)(Q:VK):Prop :=
 ∀a' ans,Kgf1.acts a c=some (a',ans)->∀q H',(∃dx tv ln,H' p=some (.ins Bd.pl dx (ZR tv (.ref ln)))/\Zfj Ad (hide p H') tv ln a')->(∀b u,b≠p->H b=some u->H' b=some u)->H q=none->H' q=some (.lst (ZcC ans))->(ZcC ans).length<=20000->Q (.ref q) H'
def Za3(Ad:Ads)(Bd:Bds)(H:Hp)(p:Addr)(a:Option Kgf1.Abs):Prop:=∃dx tv ln,H p=some (.ins Bd.pl dx (ZR tv (.ref ln)))/\Zfj Ad (hide p H) tv ln a
theorem Zew{p:Addr}{H H':Hp}(h:∀b u,b≠p->H b=some u->H' b=some u):Zc (hide p H) (hide p H'):=fun b u e=>by
 have hb:b≠p:=fun z=>by rw[z,hide_self] at e;cases e
 rw[hide_ne hb] at e ⊢;exact h b u hb e
section
variable{F:Hp}{p C dx:Addr}{fs:List (Str×V)}
theorem Zfk{a C' dx':Addr}{fs':List (Str×V)}{k:Str}(hp:F p=some (.ins C dx fs))(h1:fs.lookup k=none)(h:F a=some (.ins C' dx' fs'))(h2:fs'.lookup k≠none):hide p F a=some (.ins C' dx' fs'):=by
 rw[hide_ne fun z=>?_]
 ·exact h
 ·rw[z,hp] at h;have:=(HO.ins.inj (Option.some.inj h)).2.2;rw[this] at h1;exact h2 h1
theorem ZnY{a:Addr}{xs:List V}(hp:F p=some (.ins C dx fs))(h:F a=some (.tup xs)):hide p F a=some (.tup xs):=by
 rw[hide_ne (Z6 h hp (by intro z;cases z))];exact h
theorem ZnZ{a:Addr}{xs:List (Key×V)}(hp:F p=some (.ins C dx fs))(h:F a=some (.dK xs)):hide p F a=some (.dK xs):=by
 rw[hide_ne (Z6 h hp (by intro z;cases z))];exact h
theorem Zaq.hide{v:V}{c:Kgf1.Cond}(hp:F p=some (.ins C dx fs))(h:Zaq F v c):Zaq (hide p F) v c:=by
 obtain⟨l,refs,e,h1,h2⟩:=h;refine⟨l,refs,e,Zag hp h1,Paired.ZP h2 fun _ _ z=>?_⟩;obtain⟨q,e,h⟩:=z;exact⟨q,e,ZnY hp h⟩
theorem Zbu.hide{v:V}{c:Kgf1.Cond}(hp:F p=some (.ins C dx fs))(h:Zbu F v c):Zbu (hide p F) v c:=by
 obtain⟨l,refs,e,h1,h2⟩:=h;refine⟨l,refs,e,Zag hp h1,Paired.ZP h2 fun _ _ z=>?_⟩;obtain⟨i,q,e,h⟩:=z;exact⟨i,q,e,ZnY hp h⟩
theorem ZaN.hide{Ad:Ads}{tl:Addr}{t:Kgf1.Tale}(hp:F p=some (.ins C dx fs))(n1:fs.lookup ("told":Str)=none)(n2:fs.lookup ("choices":Str)=none)(h:ZaN Ad F tl t):ZaN Ad (hide p F) tl t:=by
 obtain⟨tdx,n,c,w,s,o,l,crefs,wrefs,srefs,orefs,lrefs,h1,h2,h3,h4,h5,h6,h7,h8,h9,h10,h11⟩:=h.at_.ex;obtain⟨tdx',n',c',w',s',o',l',crefs',g1,g2,g3⟩:=h.ch;have ob:∀{dx n c w s o l},F tl=some (.ins Ad.CT dx (ZaZ n c w s o l))->Tp.hide p F tl=some (.ins Ad.CT dx (ZaZ n c w s o l)):=fun h=>Zfk hp n2 h (by rw[ZcZ];simp);refine⟨⟨tdx,n,c,w,s,o,l,crefs,wrefs,srefs,orefs,lrefs,ob h1,Zag hp h2,h3,Zag hp h4,Paired.ZP h5 fun _ _ z=>?_,Zag hp h6,Paired.ZP h7 fun _ _ z=>?_,Zag hp h8,Paired.ZP h9 fun _ _ z=>z.hide hp,Zag hp h10,Paired.ZP h11 fun _ _ z=>z.hide hp⟩,tdx',n',c',w',s',o',l',crefs',ob g1,Zag hp g2,Paired.ZP g3 fun _ _ z=>?_⟩
 ·obtain⟨q,dq,lt,ll,vc,vd,e,z1,z2,z3,z4,z5⟩:=z;exact⟨q,dq,lt,ll,vc,vd,e,Zfk hp n1 z1 (by rw[Zim];simp),Zag hp z2,z3.hide hp,z4.hide hp,Zag hp z5⟩
 ·obtain⟨q,dq,ll,vc,e,z1,z2,z3⟩:=z;exact⟨q,dq,ll,vc,e,Zfk hp n1 z1 (by rw[ZmA];simp),Zag hp z2,z3.hide hp⟩
 ·obtain⟨d,e,z1⟩:=z;exact⟨d,e,ZnZ hp z1⟩
end
theorem Zfl(a b:V):(ZR a b).lookup ("told":Str)=none:=Zfi a b (by decide +kernel) (by decide +kernel)
theorem ZgJ(a b:V):(ZR a b).lookup ("choices":Str)=none:=Zfi a b (by decide +kernel) (by decide +kernel)
section
def Zn0(Bd:Bds):Sp:=fun vs H Q _=>∃(p dx:Addr),vs=[.ref p]/\H p=some (.ins Bd.pl dx [])/\∀ln,H ln=none->Q .non (upd (upd H ln (.lst [])) p (.ins Bd.pl dx (ZR .non (.ref ln))))
theorem Zvi:Zo ["self"] ["self"] (Zi ZjG):=⟨rfl,rfl,rfl,by decide +kernel,rfl,by decide +kernel,by decide +kernel⟩
theorem Zvj(D:MethAt K Bd.pl "__init__" "Play.__init__" ZjG f)(hm:mg "Play"=some (.ref Bd.pl))(mk:PySem.W.makesIn K Bd.pl=true)(kc:PySem.W.keepIn K (.ref Bd.pl)=true)(CP:Zv K Bd.pl Zc8):ZaS P w K mg base CX0 1 "Play" Bd.pl ["self"] (Zn0 Bd):=by
 refine D.ZcX hm mk kc Zvi (fun _ _ _ _ _ _ us hl=>match us,hl with|[_],_=>rfl) (fun vs H Q E h=>?_) (fun cdv A outer s H vs Q E hr h=>?_)
 ·obtain⟨p,dx,rfl,_⟩:=h;rfl
 ·obtain⟨p,dx,rfl,hp,k⟩:=h;refine⟨_,Ze (Z4 (pv 0) ZdN rfl) (Zh (Z4 (pv 0) (ZQ Zb) rfl)),?_⟩;refine⟨_,rfl,p,Bd.pl,dx,_,rfl,hp,CP.cl,CP.no _ (by decide +kernel),(by show 0 < 1000;decide),?_⟩;refine⟨by show 0<=sizeLine;decide,fun ln hln=>?_⟩;obtain⟨hlp,hln2⟩:=Z3 hln;refine⟨_,rfl,p,Bd.pl,dx,_,rfl,by rw[Zf hlp.symm,Zd],CP.cl,CP.no _ (by decide +kernel),(by show 1 < 1000;decide),?_⟩;have e:Zw "now" (V.ref ln) (Zw "tale" .non [])=ZR .non (.ref ln):=by
   have e1:Zw "tale" V.non []=[(("tale":Str),V.non)]:=rfl;rw[e1,ZE (by decide +kernel)];rfl
  rw[ZdA hlp,e];exact k ln hln2
def Zn1(K:PySem.W.Frag)(Ad:Ads)(Bd:Bds):Sp:=fun vs H Q _=>∃(p b:Addr)(a:Option Kgf1.Abs)(bs:List Nat),vs=[.ref p,.ref b]/\Za3 Ad Bd H p a/\SqL K H b (bs.map iV)/\bs.length<=30000/\Zb1 Ad Bd H p a (.read bs.length bs) Q
theorem Zn2:Zo ["self","text","tale"] ["self","text"] (Zi ZjH):=⟨rfl,rfl,rfl,by decide +kernel,rfl,by decide +kernel,by decide +kernel⟩
theorem Zvk(D:MethAt K Bd.pl "read" "Play.read" ZjH f)(CP:Zv K Bd.pl Zc8)(NL:XT K mg "TooLong" CL)(NE:XT K mg "NoTale" C)(hx:PySem.W.exmOne K (.ref C) (.ref CL)=some false)(hTL:GI mg "TOO_LONG" (-22))(hNT:GI mg "NOT_A_TALE" (-71))
  (F1:Can P w K mg base (CX1 P w) 10 "tale_of" ["text"] (Ze7 K Ad C CL)) (F2:Can P w K mg base CX0 1 "first_state" ["tale"] (Zga Ad)):ZV P w K mg base CX0 11 Bd.pl "read" ["self","text"] (Zn1 K Ad Bd):=by
 refine D.can Zn2 (fun _ _ _ _ _ _ us hl=>match us,hl with|[_,_],_=>rfl) (fun vs H Q E h=>?_) (fun cdv A outer s H vs Q E hr h=>?_)
 ·obtain⟨p,b,a,bs,rfl,_⟩:=h;rfl
 ·obtain⟨p,b,a,bs,rfl,hP,hS,hz,k⟩:=h;refine⟨_,Ze (Zmc rfl rfl (tb:=fun E=>ZeB (Zb7 (Ze7 K Ad C CL) [] E (ZU (ZH 1) Zaf)) (ZaP 2)) (fun pn W E hp=>Zh (Zx (i:=2) Zn2.nd rfl (Or.inl rfl) (Zp F1 hr hp (Za (pv 1) Zb))))
    (PHs.cons NL.ex (by decide) rfl NL.mg (ts:=ZbO (Zb6 (ZU (tC (.int (-22))) Zaf))) (fun e=>Zh (Zm (ZQ (Za (Zu hTL) Zb)))) (by decide)
    (PHs.cons NE.ex (by decide) rfl NE.mg (ts:=ZbO (Zb6 (ZU (tC (.int (-71))) Zaf))) (fun e=>Zh (Zm (ZQ (Za (Zu hNT) Zb)))) (by decide) .nil)))
   (Ze (Z4 (pv 0) (pv 2) rfl) (Ze (Z4 (pv 0) (Zp F2 hr Zs (Za (pv 2) Zb)) rfl) (Zh (Zm (ZQ (Za Zr Zb)))))),?_⟩
  obtain⟨dx,tv,ln,hp,hH⟩:=hP;unfold Zb1 at k;have refuse:∀(v:Int)(H1:Hp),Zc H H1->Kgf1.acts a (.read bs.length bs)=some (a,Kgf1.bare v)->ZbO (Zb6 (ZU (tC (.int v)) Zaf)) { nx:=fun _ H'=>Q .non H',rt:=Q } (List.replicate 3 none) H1:=fun v H1 s1 e=>by
   refine⟨by show 1<=sizeLine;decide,fun q hq=>?_⟩;have s2:Zc H1 (upd H1 q (.lst [.int v])):=Zq hq;exact k a _ e q _ ⟨dx,tv,ln,s2 _ _ (s1 _ _ hp),hH.same (Zew fun b u _ e=>s2 _ _ (s1 _ _ e))⟩ (fun b u _ e=>s2 _ _ (s1 _ _ e)) (s1.free hq) Zd (by show 1<=20000;omega)
  have eA:Kgf1.acts a (.read bs.length bs)=some (if Kgf1.MOST < bs.length then(a,Kgf1.bare (-22)) else match Kgf1.read bs with|none=>(a,Kgf1.bare (-71))|some t=>(some ⟨t,none⟩,Kgf1.bare 0)):=rfl;refine⟨_,rfl,b,bs,rfl,hS,hz,fun hbig H1 s1=>.inl ⟨rfl,refuse (-22) H1 s1 ?_⟩,fun hle hno H1 s1=>.inr ⟨hx,.inl ⟨rfl,refuse (-71) H1 s1 ?_⟩⟩,fun hle t tl H1 hyes s1 hT=>?_⟩
  ·rw[eA,if_pos (by show 24576 < bs.length;exact hbig)]
  ·rw[eA,if_neg (by show¬24576 < bs.length;omega),hno]
  ·have hp1:=s1 _ _ hp;obtain⟨hft,hok⟩:=Tl.Zl8 hyes;have hg:Za2 t:=⟨hft,hok⟩
   have hT1:=hT.hide hp1 (Zfl _ _) (ZgJ _ _);refine⟨_,rfl,_,rfl,p,Bd.pl,dx,_,rfl,hp1,CP.cl,CP.no _ (by decide +kernel),(by show 2 < 1000;decide),?_⟩;rw[Zvh];have s1':=ZbN p H1 (.ins Bd.pl dx (ZR (.ref tl) (.ref ln)));have p1':upd H1 p (.ins Bd.pl dx (ZR (.ref tl) (.ref ln))) p=some (.ins Bd.pl dx (ZR (.ref tl) (.ref ln))):=Zd;have fr1:∀b u,b≠p->H b=some u->upd H1 p (.ins Bd.pl dx (ZR (.ref tl) (.ref ln))) b=some u:=fun b u n e=>by rw[Zf n];exact s1 _ _ e
   generalize upd H1 p (.ins Bd.pl dx (ZR (.ref tl) (.ref ln)))=H2 at s1' p1' fr1;refine⟨_,rfl,tl,t,rfl,(hT1.same s1').at_,hg.Zet,fun lf H3 s3 hlf0 hlf=>?_⟩;have p3:=s3 _ _ p1';refine⟨_,rfl,p,Bd.pl,dx,_,rfl,p3,CP.cl,CP.no _ (by decide +kernel),(by show 2 < 1000;decide),?_⟩;rw[ZjF];have s3':=ZbN p H3 (.ins Bd.pl dx (ZR (.ref tl) (.ref lf)));have p3':upd H3 p (.ins Bd.pl dx (ZR (.ref tl) (.ref lf))) p=some (.ins Bd.pl dx (ZR (.ref tl) (.ref lf))):=Zd;have fr3:∀b u,b≠p->H b=some u->upd H3 p (.ins Bd.pl dx (ZR (.ref tl) (.ref lf))) b=some u:=fun b u n e=>by rw[Zf n];exact s3 _ _ (fr1 b u n e)
   have hTh:ZaN Ad (hide p H3) tl t:=((hT1.same s1').same s3).hide p3 (Zfl _ _) (ZgJ _ _);have hlh:=Zag p3 hlf;have q3:∀{q},upd H3 p (.ins Bd.pl dx (ZR (.ref tl) (.ref lf))) q=none->H q=none:=fun{q} e=>by
    obtain⟨n,e1⟩:=Z3 e;cases z:H q with
    |none=>rfl
    |some u=>rw[s3 _ _ (fr1 q u n z)] at e1;cases e1
   generalize upd H3 p (.ins Bd.pl dx (ZR (.ref tl) (.ref lf)))=H4 at s3' p3' fr3 q3;refine⟨by show 1<=sizeLine;decide,fun q hq=>?_⟩;have s4:Zc H4 (upd H4 q (.lst [.int 0])):=Zq hq;refine k (some ⟨t,none⟩) (Kgf1.bare 0) ?_ q _ ⟨dx,.ref tl,lf,s4 _ _ p3',?_⟩ (fun b u n e=>s4 _ _ (fr3 b u n e)) (q3 hq) Zd (by show 1<=20000;omega)
   ·rw[eA,if_neg (by show¬24576 < bs.length;omega),hyes]
   ·have sh:Zc (hide p H3) (hide p (upd H4 q (.lst [.int 0]))):=ZdI (s3'.trans s4) (hide_self _ _);exact⟨tl,Kgf1.first t,rfl,hTh.same sh,hg,sh _ _ hlh,by unfold Kgf1.first;rw[List.length_map],fun s e=>(by cases e)⟩
end
theorem Zn3{α:Type}(p:α->Bool):∀l:List α,(l.findIdx? p).bind (fun k=>l[k]?)=l.find? p
 |[]=>rfl
 |a::l=>by
  rw[List.findIdx?_cons,List.find?_cons];cases h:p a with
  |true=>rfl
  |false =>
   rw[←Zn3 p l];cases l.findIdx? p<;>rfl
theorem ZjM{α:Type}(p q:α->Bool):∀l:List α,(l.filter p).find? q=l.find? fun x=>p x&&q x
 |[]=>rfl
 |a::l=>by
  rw[List.filter_cons,List.find?_cons];cases h:p a with
  |true =>
   simp only[if_true,Bool.true_and,List.find?_cons];rw[ZjM p q l]
  |false =>
   simp only[Bool.false_eq_true,if_false,Bool.false_and];exact ZjM p q l
theorem Zvl(t:Kgf1.Tale)(s:Kgf1.St)(w:Kgf1.Bytes):((Kgf1.done t s w).bind fun k=>t.whens[k]?)=(t.whens.filter fun x=>x.words==w).find? fun x=>Kgf1.holds s x.cond:=by
 unfold Kgf1.done;rw[Zn3,ZjM]
theorem Zn4{α:Type}(p:α->Bool)(l:List α):(l.filter p).length=0↔l.any p=false:=by
 rw[List.length_eq_zero_iff,List.filter_eq_nil_iff,List.any_eq_false]
section
def Zn5(Ad:Ads)(Bd:Bds):Sp:=fun vs H Q _=>∃(p:Addr)(x:Kgf1.Abs),vs=[.ref p]/\Za3 Ad Bd H p (some x)/\Zb1 Ad Bd H p (some x) .start Q
theorem Zvm:Zo ["self"] ["self"] (Zi ZjI):=⟨rfl,rfl,rfl,by decide +kernel,rfl,by decide +kernel,by decide +kernel⟩
theorem Zvn(D:MethAt K Bd.pl "begin" "Play.begin" ZjI f)(CP:Zv K Bd.pl Zc8)(F2:Can P w K mg base CX0 1 "first_state" ["tale"] (Zga Ad)):ZV P w K mg base CX0 2 Bd.pl "begin" ["self"] (Zn5 Ad Bd):=by
 refine D.can Zvm (fun _ _ _ _ _ _ us hl=>match us,hl with|[_],_=>rfl) (fun vs H Q E h=>?_) (fun cdv A outer s H vs Q E hr h=>?_)
 ·obtain⟨p,x,rfl,_⟩:=h;rfl
 ·obtain⟨p,x,rfl,⟨dx,tv,ln,hp,hH⟩,k⟩:=h;obtain⟨tl,st,rfl,hT,hg,hl,hsl,hs⟩:=hH;refine⟨_,Ze (Z4 (pv 0) (Zp F2 hr Zs (Za (Zl (pv 0) rfl) Zb)) rfl) (Zh (Zm (ZQ (Za Zr Zb)))),?_⟩;have hTH:=hT.same (Za7 p H);refine⟨_,rfl,p,Bd.pl,dx,_,_,rfl,hp,CP.cl,CP.no _ (by decide +kernel),Zfh ..,tl,x.t,rfl,hTH.at_,hg.Zet,fun lf H3 s3 hlf0 hlf=>?_⟩;have p3:=s3 _ _ hp;refine⟨_,rfl,p,Bd.pl,dx,_,rfl,p3,CP.cl,CP.no _ (by decide +kernel),(by show 2 < 1000;decide),?_⟩;rw[ZjF];have s3':=ZbN p H3 (.ins Bd.pl dx (ZR (.ref tl) (.ref lf)));have p3':upd H3 p (.ins Bd.pl dx (ZR (.ref tl) (.ref lf))) p=some (.ins Bd.pl dx (ZR (.ref tl) (.ref lf))):=Zd;have hTh:ZaN Ad (hide p H3) tl x.t:=(hTH.same s3).hide p3 (Zfl _ _) (ZgJ _ _);have hlh:=Zag p3 hlf;have fr3:∀b u,b≠p->H b=some u->upd H3 p (.ins Bd.pl dx (ZR (.ref tl) (.ref lf))) b=some u:=fun b u n e=>by rw[Zf n];exact s3 _ _ e
  have q3:∀{q},upd H3 p (.ins Bd.pl dx (ZR (.ref tl) (.ref lf))) q=none->H q=none:=fun{q} e=>s3.free (Z3 e).2;generalize upd H3 p (.ins Bd.pl dx (ZR (.ref tl) (.ref lf)))=H4 at s3' p3' fr3 q3;refine⟨by show 1<=sizeLine;decide,fun q hq=>?_⟩;have s4:Zc H4 (upd H4 q (.lst [.int 0])):=Zq hq;refine k (some { x with s:=some (Kgf1.first x.t) }) (Kgf1.bare 0) rfl q _ ⟨dx,.ref tl,lf,s4 _ _ p3',?_⟩ (fun b u n e=>s4 _ _ (fr3 b u n e)) (q3 hq) Zd (by show 1<=20000;omega);have sh:Zc (hide p H3) (hide p (upd H4 q (.lst [.int 0]))):=ZdI (s3'.trans s4) (hide_self _ _);exact⟨tl,Kgf1.first x.t,rfl,hTh.same sh,hg,sh _ _ hlh,by unfold Kgf1.first;rw[List.length_map],fun s e=>(by cases e;rfl)⟩
def Zn6(Ad:Ads)(Bd:Bds):Sp:=fun vs H Q _=>∃(p:Addr)(t:Kgf1.Tale)(s:Kgf1.St),vs=[.ref p]/\Za3 Ad Bd H p (some ⟨t,some s⟩)/\Zb1 Ad Bd H p (some ⟨t,some s⟩) .status Q
theorem Zvo:Zo ["self"] ["self"] (Zi ZjK):=⟨rfl,rfl,rfl,by decide +kernel,rfl,by decide +kernel,by decide +kernel⟩
theorem Zvp(D:MethAt K Bd.pl "status" "Play.status" ZjK f)(CP:Zv K Bd.pl Zc8)(F1:Can P w K mg base CX0 3 "status_of" ["tale","state"] (Ziw K Ad)):ZV P w K mg base CX0 4 Bd.pl "status" ["self"] (Zn6 Ad Bd):=by
 refine D.can Zvo (fun _ _ _ _ _ _ us hl=>match us,hl with|[_],_=>rfl) (fun vs H Q E h=>?_) (fun cdv A outer s H vs Q E hr h=>?_)
 ·obtain⟨p,t,s,rfl,_⟩:=h;rfl
 ·obtain⟨p,t,s0,rfl,⟨dx,tv,ln,hp,hH⟩,k⟩:=h;have hH':=hH;obtain⟨tl,st,rfl,hT,hg,hl,hsl,hs⟩:=hH;obtain rfl:=hs s0 rfl;refine⟨_,Zh (Zm (ZQ (Za (Zp F1 hr Zs (Za (Zl (pv 0) rfl) (Za (Zl (pv 0) rfl) Zb))) Zb))),?_⟩;have hTH:=hT.same (Za7 p H);have hlH:=Za7 p H _ _ hl;refine⟨_,rfl,p,Bd.pl,dx,_,_,rfl,hp,CP.cl,CP.no _ (by decide +kernel),Zfh ..,_,rfl,p,Bd.pl,dx,_,_,rfl,hp,CP.cl,CP.no _ (by decide +kernel),Zc9 ..,tl,ln,t,s0,rfl,hTH.at_,hg.Zet,SqL.of hlH,hsl,fun H1 s1=>?_⟩;refine⟨by show 1<=sizeLine;decide,fun q hq=>?_⟩;have s2:Zc H (upd H1 q (.lst [iV (Kgf1.status t s0)])):=s1.trans (Zq hq);exact k _ _ rfl q _ ⟨dx,.ref tl,ln,s2 _ _ hp,hH'.same (Zew fun b u _ e=>s2 _ _ e)⟩ (fun b u _ e=>s2 _ _ e) (s1.free hq) Zd (by show 1<=20000;omega)
def Zn7(Ad:Ads)(Bd:Bds):Sp:=fun vs H Q _=>∃(p:Addr)(t:Kgf1.Tale)(s:Kgf1.St),vs=[.ref p]/\Za3 Ad Bd H p (some ⟨t,some s⟩)/\Zb1 Ad Bd H p (some ⟨t,some s⟩) .state Q
theorem Zvq:Zo ["self"] ["self"] (Zi ZjL):=⟨rfl,rfl,rfl,by decide +kernel,rfl,by decide +kernel,by decide +kernel⟩
theorem Zvr(D:MethAt K Bd.pl "state" "Play.state" ZjL f)(CP:Zv K Bd.pl Zc8)(hlen:mg "len"=none)(hMV:GI mg "MOST_VARS" 24):ZV P w K mg base CX0 1 Bd.pl "state" ["self"] (Zn7 Ad Bd):=by
 refine D.can Zvq (fun _ _ _ _ _ _ us hl=>match us,hl with|[_],_=>rfl) (fun vs H Q E h=>?_) (fun cdv A outer s H vs Q E hr h=>?_)
 ·obtain⟨p,t,s,rfl,_⟩:=h;rfl
 ·obtain⟨p,t,s0,rfl,⟨dx,tv,ln,hp,hH⟩,k⟩:=h;have hH':=hH;have big:sizeLine=16777216:=by decide
  obtain⟨tl,st,rfl,hT,hg,hl,hsl,hs⟩:=hH;obtain rfl:=hs s0 rfl;have hsl:s0.length=t.vars.length:=hsl;have h24:s0.length<=24:=by rw[hsl];exact hg.Zet.vars
  refine⟨_,Zh (Zm (ZY ZdX (ZY ZdX (ZQ (Za (ZN Z0 (by rfl) hlen PySem.boot_len (Za (Zl (pv 0) rfl) Zb)) Zb)) (Zl (pv 0) rfl)) (ZY Zhe (ZQ (Za Zr Zb)) (ZY Zb5 (Zu hMV) (ZN Z0 (by rfl) hlen PySem.boot_len (Za (Zl (pv 0) rfl) Zb)))))),?_⟩;have hlH:=Za7 p H _ _ hl;refine⟨_,rfl,p,Bd.pl,dx,_,_,rfl,hp,CP.cl,CP.no _ (by decide +kernel),Zc9 ..,ln,_,rfl,.inl (SqL.of hlH),by show 1<=sizeLine;decide,fun q1 hq1=>?_⟩;have s1:Zc H (upd H q1 (.lst [V.int ((s0.map iV).length:Int)])):=Zq hq1;have l1:upd H q1 (.lst [V.int ((s0.map iV).length:Int)]) q1=some (.lst [V.int ((s0.map iV).length:Int)]):=Zd;generalize upd H q1 (.lst [V.int ((s0.map iV).length:Int)])=H1 at s1 l1;refine⟨_,rfl,p,Bd.pl,dx,_,_,rfl,s1 _ _ hp,CP.cl,CP.no _ (by decide +kernel),Zc9 ..,q1,ln,_,_,rfl,rfl,l1,s1 _ _ hlH,by rw[map_len];show 1+_<=_;omega,fun q2 hq2=>?_⟩;have s2:Zc H1 (upd H1 q2 (.lst ([V.int ((s0.map iV).length:Int)]++s0.map iV))):=Zq hq2;have l2:upd H1 q2 (.lst ([V.int ((s0.map iV).length:Int)]++s0.map iV)) q2=some (.lst ([V.int ((s0.map iV).length:Int)]++s0.map iV)):=Zd;generalize upd H1 q2 (.lst ([V.int ((s0.map iV).length:Int)]++s0.map iV))=H2 at s2 l2;refine⟨by show 1<=sizeLine;decide,fun q3 hq3=>?_⟩;have s3:Zc H2 (upd H2 q3 (.lst [V.int 0])):=Zq hq3;have l3:upd H2 q3 (.lst [V.int 0]) q3=some (.lst [V.int 0]):=Zd;generalize upd H2 q3 (.lst [V.int 0])=H3 at s3 l3;have s03:=(s1.trans s2).trans s3;refine⟨_,rfl,p,Bd.pl,dx,_,_,rfl,s03 _ _ hp,CP.cl,CP.no _ (by decide +kernel),Zc9 ..,ln,_,rfl,.inl (SqL.of (s03 _ _ hlH)),_,_,rfl,rfl,q3,_,_,rfl,rfl,l3,by rw[map_len];omega,by rw[map_len];omega,?_,fun q4 hq4=>?_⟩
  ·show 1 * _<=_;rw[map_len];omega
  rw[Zgb];have s4:Zc H3 (upd H3 q4 (.lst (List.replicate ((24:Int) - ((s0.map iV).length:Int)).toNat (V.int 0)))):=Zq hq4;have l4:upd H3 q4 (.lst (List.replicate ((24:Int) - ((s0.map iV).length:Int)).toNat (V.int 0))) q4=some (.lst (List.replicate ((24:Int) - ((s0.map iV).length:Int)).toNat (V.int 0))):=Zd;generalize upd H3 q4 (.lst (List.replicate ((24:Int) - ((s0.map iV).length:Int)).toNat (V.int 0)))=H4 at s4 l4;refine⟨q2,q4,_,_,rfl,rfl,s4 _ _ (s3 _ _ l2),l4,?_,fun q5 hq5=>?_⟩
  ·rw[List.length_append,map_len,List.length_replicate];show 1+_+_<=_;omega
  have s5:∀o,Zc H (upd H4 q5 o):=fun o=>(s03.trans s4).trans (Zq hq5);have eans:([V.int ((s0.map iV).length:Int)]++s0.map iV)++List.replicate ((24:Int) - ((s0.map iV).length:Int)).toNat (V.int 0)=ZcC ⟨(t.vars.length:Nat),(List.range 24).map fun k=>s0.getD k 0⟩:=by
   unfold ZcC;have e2:((List.range 24).map fun k=>s0.getD k 0)=Kgf2.flat s0:=rfl;rw[e2,Tl.ZeY h24,List.map_append,map_len,hsl];have e:((24:Int) - (t.vars.length:Int)).toNat=24 - t.vars.length:=by omega
   rw[e,List.map_replicate];rfl
  refine k _ _ rfl q5 _ ⟨dx,.ref tl,ln,s5 _ _ _ hp,hH'.same (Zew fun b u _ e=>s5 _ _ _ e)⟩ (fun b u _ e=>s5 _ _ _ e) ((s03.trans s4).free hq5) (by rw[Zd,eans]) ?_;unfold ZcC;rw[List.length_cons,List.length_map,List.length_map,List.length_range];omega
def ZgK(t:Kgf1.Tale)(s:Kgf1.St):Option Kgf1.When->Option Kgf1.Abs×Kgf1.Ans
 |none=>(some ⟨t,some s⟩,Kgf1.bare 1)
 |some x=>(some ⟨t,some (Kgf1.changed s x.change)⟩,⟨2,Kgf1.told t (Kgf1.changed s x.change) x.text⟩)
def ZcD(t:Kgf1.Tale)(s:Kgf1.St)(bs:List Nat):Option Kgf1.Abs×Kgf1.Ans:=if 255 < bs.length then(some ⟨t,some s⟩,Kgf1.bare (-22)) else if Kgf1.status t s≠0 then(some ⟨t,some s⟩,Kgf1.bare (-1)) else
 if !(t.whens.any fun x=>x.words==Kgf1.plain bs) then(some ⟨t,some s⟩,Kgf1.bare 0) else ZgK t s ((Kgf1.done t s (Kgf1.plain bs)).bind fun k=>t.whens[k]?)
theorem Zvs(t:Kgf1.Tale)(s:Kgf1.St)(bs:List Nat):Kgf1.acts (some ⟨t,some s⟩) (.say bs.length bs)=some (ZcD t s bs):=by
 unfold ZcD ZgK;rfl
def Zn8(K:PySem.W.Frag)(Ad:Ads)(Bd:Bds):Sp:=fun vs H Q _=>∃(p b:Addr)(t:Kgf1.Tale)(s:Kgf1.St)(bs:List Nat),vs=[.ref p,.ref b]/\Za3 Ad Bd H p (some ⟨t,some s⟩)/\SqL K H b (bs.map iV)/\bs.length<=30000/\Zb1 Ad Bd H p (some ⟨t,some s⟩) (.say bs.length bs) Q
theorem ZjN:Zo ["self","line","whens","when"] ["self","line"] (Zi ZjJ):=⟨rfl,rfl,rfl,by decide +kernel,rfl,by decide +kernel,by decide +kernel⟩
theorem Zvt(D:MethAt K Bd.pl "say" "Play.say" ZjJ f)(CP:Zv K Bd.pl Zc8)(CW:Zv K Ad.CW Zdz)(hlen:mg "len"=none)(hML:GI mg "MOST_LINE" 255)(hTL:GI mg "TOO_LONG" (-22))(hGO:GI mg "GOES_ON" 0)(hOV:GI mg "OVER" (-1))(hNK:GI mg "NOT_KNOWN" 0)(hNN:GI mg "NOT_NOW" 1)(hDN:GI mg "DONE" 2)
  (F1:Can P w K mg base CX0 3 "status_of" ["tale","state"] (Ziw K Ad)) (F2:Can P w K mg base CX0 1 "whens_typed" ["tale","typed"] (ZmF K Ad)) (F3:Can P w K mg base CX0 2 "plain_line" ["line"] (Zii K)) (F4:Can P w K mg base CX0 2 "first_to_do" ["whens","state"] (ZmH K Ad)) (F5:Can P w K mg base CX0 1 "state_behind" ["change","state"] (ZmJ K)) (F6:Can P w K mg base CX0 2 "shown" ["tale","state"] (ZmL K Ad)) :
  ZV P w K mg base CX0 4 Bd.pl "say" ["self","line"] (Zn8 K Ad Bd):=by
 refine D.can ZjN (fun _ _ _ _ _ _ us hl=>match us,hl with|[_,_],_=>rfl) (fun vs H Q E h=>?_) (fun cdv A outer s H vs Q E hr h=>?_)
 ·obtain⟨p,b,t,s,bs,rfl,_⟩:=h;rfl
 ·obtain⟨p,b,t,s0,bs,rfl,⟨dx,tv,ln,hp,hH⟩,hS,hz,k⟩:=h;have hH':=hH;have big:sizeLine=16777216:=by decide
  obtain⟨tl,st,rfl,hT,hg,hl,hsl,hs⟩:=hH;obtain rfl:=hs s0 rfl;have hsl:s0.length=t.vars.length:=hsl;have hfn:=hg.Zet;refine⟨_,Ze (Zy (ZC ZdT (ZN Z0 (by rfl) hlen PySem.boot_len (Za (pv 1) Zb)) (Zu hML) (Zz _)) (Zh (Zm (ZQ (Za (Zu hTL) Zb)))) ZD)
   (Ze (Zy (ZC Zdg (Zp F1 hr Zs (Za (Zl (pv 0) rfl) (Za (Zl (pv 0) rfl) Zb))) (Zu hGO) (Zz _)) (Zh (Zm (ZQ (Za (Zu hOV) Zb)))) ZD)
   (Ze (Zx (i:=2) ZjN.nd rfl (Or.inl rfl) (Zp F2 hr Zs (Za (Zl (pv 0) rfl) (Za (Zp F3 hr Zs (Za (pv 1) Zb)) Zb))))
   (Ze (Zy (ZC Z9 (ZN Z0 (by rfl) hlen PySem.boot_len (Za (pv 2) Zb)) Zr (Zz _)) (Zh (Zm (ZQ (Za (Zu hNK) Zb)))) ZD)
   (Ze (Zx (i:=3) ZjN.nd rfl (Or.inl rfl) (Zp F4 hr Zs (Za (pv 2) (Za (Zl (pv 0) rfl) Zb))))
   (Ze (Zy (ZC Zkf (pv 3) ZdN (Zz _)) (Zh (Zm (ZQ (Za (Zu hNN) Zb)))) ZD)
   (Ze (Z4 (pv 0) (Zp F5 hr Zs (Za (Zl (pv 3) rfl) (Za (Zl (pv 0) rfl) Zb))) rfl)
   (Zh (Zm (ZY ZdX (ZY ZdX (ZQ (Za (Zu hDN) Zb)) (Zl (pv 3) rfl)) (Zp F6 hr Zs (Za (Zl (pv 0) rfl) (Za (Zl (pv 0) rfl) Zb)))))))))))),?_⟩
  have hTH:=hT.same (Za7 p H);have hlH:=Za7 p H _ _ hl;have eA:Kgf1.acts (some ⟨t,some s0⟩) (.say bs.length bs)=some (ZcD t s0 bs):=Zvs t s0 bs;unfold Zb1 at k;rw[eA] at k;have same:∀(v:Int)(H1:Hp)(σ:St),Zc H H1->ZcD t s0 bs=(some ⟨t,some s0⟩,Kgf1.bare v)->ZbO (Zb6 (ZU (tC (.int v)) Zaf)) { nx:=fun _ H'=>Q .non H',rt:=Q } σ H1:=fun v H1 σ s1 e=>by
   refine⟨by show 1<=sizeLine;decide,fun q hq=>?_⟩;have s2:Zc H1 (upd H1 q (.lst [.int v])):=Zq hq;exact k _ _ (by rw[e]) q _ ⟨dx,.ref tl,ln,s2 _ _ (s1 _ _ hp),hH'.same (Zew fun b u _ e=>s2 _ _ (s1 _ _ e))⟩ (fun b u _ e=>s2 _ _ (s1 _ _ e)) (s1.free hq) Zd (by show 1<=20000;omega)
  refine⟨_,rfl,b,_,rfl,.inl hS,_,_,rfl,rfl,_,rfl,?_⟩;by_cases hbig:255 < bs.length
  ·refine ifD (by rw[map_len];omega) (same (-22) H _ (Zc.refl H) ?_);unfold ZcD;rw[if_pos hbig]
  refine ifN (by rw[map_len];omega) ?_;refine⟨_,rfl,p,Bd.pl,dx,_,_,rfl,hp,CP.cl,CP.no _ (by decide +kernel),Zfh ..,_,rfl,p,Bd.pl,dx,_,_,rfl,hp,CP.cl,CP.no _ (by decide +kernel),Zc9 ..,tl,ln,t,s0,rfl,hTH.at_,hfn,SqL.of hlH,hsl,fun H1 s1=>⟨rfl,_,rfl,?_⟩⟩;by_cases hst:Kgf1.status t s0=0;rotate_left
  ·refine ZbW (fun z=>hst (by have:=Zau.mp z;omega)) (same (-1) H1 _ s1 ?_);unfold ZcD;rw[if_neg hbig,if_pos hst]
  refine Zbt (by rw[hst];rfl) ?_;have hst':¬(Kgf1.status t s0≠0):=fun z=>z hst;have eR:ZcD t s0 bs=if !(t.whens.any fun x=>x.words==Kgf1.plain bs) then(some ⟨t,some s0⟩,Kgf1.bare 0) else ZgK t s0 ((t.whens.filter fun x=>x.words==Kgf1.plain bs).find? fun x=>Kgf1.holds s0 x.cond):=by
   unfold ZcD;rw[if_neg hbig,if_neg hst',Zvl]
  refine⟨_,rfl,p,Bd.pl,dx,_,_,rfl,s1 _ _ hp,CP.cl,CP.no _ (by decide +kernel),Zfh ..,_,rfl,b,bs,rfl,s1.seq hS,hz,fun lp hlp=>?_⟩;have s2:Zc H1 (upd H1 lp (.lst ((Kgf1.plain bs).map iV))):=Zq hlp;have s02:=s1.trans s2;refine⟨tl,lp,t,Kgf1.plain bs,rfl,hTH.at_.same s02,hfn,SqL.of Zd,fun lw wrefs H3 s3 hlw hwp=>?_⟩;have s03:=s02.trans s3;have hwl:=Z2 hwp;refine⟨_,rfl,lw,_,rfl,.inl (SqL.of hlw),rfl,_,rfl,?_⟩;by_cases hno:(t.whens.filter fun x=>x.words==Kgf1.plain bs).length=0
  ·refine ifD (by rw[hwl,hno];rfl) (same 0 H3 _ s03 ?_);rw[eR,(Zn4 _ _).mp hno];rfl
  have hany:(t.whens.any fun x=>x.words==Kgf1.plain bs)=true:=by
   cases z:t.whens.any fun x=>x.words==Kgf1.plain bs with
   |true=>rfl
   |false=>exact absurd ((Zn4 _ _).mpr z) hno
  refine ifN (fun z=>hno (by have:=V.int.inj z;omega)) ?_;rw[hany] at eR;have eR:ZcD t s0 bs=ZgK t s0 ((t.whens.filter fun x=>x.words==Kgf1.plain bs).find? fun x=>Kgf1.holds s0 x.cond):=eR;have hV:∀x∈t.whens.filter (fun x=>x.words==Kgf1.plain bs),ZbY s0.length x.cond:=fun x hx=>by rw[hsl];exact(hfn.wc x (List.mem_filter.mp hx).1).1
  refine⟨_,rfl,_,rfl,p,Bd.pl,dx,_,_,rfl,s03 _ _ hp,CP.cl,CP.no _ (by decide +kernel),Zc9 ..,lw,ln,wrefs,_,s0,rfl,hlw,hwp,SqL.of (s03 _ _ hlH),hV,?_⟩;cases hfd:(t.whens.filter fun x=>x.words==Kgf1.plain bs).find? fun x=>Kgf1.holds s0 x.cond with
  |none =>
   refine⟨_,rfl,rfl,_,rfl,?_⟩;refine ifD rfl (same 1 H3 _ s03 ?_);rw[eR,hfd];rfl
  |some x =>
   rw[hfd] at eR;rw[eR] at k;have hxm:=List.mem_of_find?_eq_some hfd;have hxw:=(List.mem_filter.mp hxm).1;have hfx:=hfn.wc x hxw;intro v hva;obtain⟨pw,dw,lt,ll,vc,vd,rfl,g1,g2,g3,g4,g5⟩:=hva;refine⟨_,rfl,rfl,_,rfl,?_⟩;refine ifN (fun z=>by cases z) ?_;refine⟨_,rfl,pw,Ad.CW,dw,_,_,rfl,g1,CW.cl,CW.no _ (by decide +kernel),Zmz ..,_,rfl,p,Bd.pl,dx,_,_,rfl,s03 _ _ hp,CP.cl,CP.no _ (by decide +kernel),Zc9 ..,vd,x.change,ln,s0,rfl,g4,SqL.of (s03 _ _ hlH),by rw[hsl];exact hfx.2.1,fun lc hlc=>?_⟩;have s4:Zc H3 (upd H3 lc (.lst ((Kgf1.changed s0 x.change).map iV))):=Zq hlc;have l4:upd H3 lc (.lst ((Kgf1.changed s0 x.change).map iV)) lc=some (.lst ((Kgf1.changed s0 x.change).map iV)):=Zd;generalize upd H3 lc (.lst ((Kgf1.changed s0 x.change).map iV))=H4 at s4 l4;have s04:=s03.trans s4;have p4:=s04 _ _ hp;refine⟨_,rfl,p,Bd.pl,dx,_,rfl,p4,CP.cl,CP.no _ (by decide +kernel),(by show 2 < 1000;decide),?_⟩;rw[ZjF];have s4':=ZbN p H4 (.ins Bd.pl dx (ZR (.ref tl) (.ref lc)));have p5:upd H4 p (.ins Bd.pl dx (ZR (.ref tl) (.ref lc))) p=some (.ins Bd.pl dx (ZR (.ref tl) (.ref lc))):=Zd;have hTh:ZaN Ad (hide p H4) tl t:=(hTH.same s04).hide p4 (Zfl _ _) (ZgJ _ _);have hlh:=Zag p4 l4;have hpw:=Zfk p4 (Zfl _ _) (s4 _ _ g1) (by rw[Zim];simp);have hll:=Zag p4 (s4 _ _ g5);have fr5:∀b u,b≠p->H b=some u->upd H4 p (.ins Bd.pl dx (ZR (.ref tl) (.ref lc))) b=some u:=fun b u n e=>by rw[Zf n];exact s04 _ _ e
   have q5:∀{q},upd H4 p (.ins Bd.pl dx (ZR (.ref tl) (.ref lc))) q=none->H q=none:=fun{q} e=>s04.free (Z3 e).2;generalize upd H4 p (.ins Bd.pl dx (ZR (.ref tl) (.ref lc)))=H5 at s4' p5 fr5 q5;generalize hG:hide p H4=G4 at s4' hTh hlh hpw hll;have gp:G4 p=none:=by rw[←hG];exact hide_self _ _
   refine⟨by show 1<=sizeLine;decide,fun q1 hq1=>?_⟩;have s6:Zc H5 (upd H5 q1 (.lst [V.int 2])):=Zq hq1;have l6:upd H5 q1 (.lst [V.int 2]) q1=some (.lst [V.int 2]):=Zd;generalize upd H5 q1 (.lst [V.int 2])=H6 at s6 l6;have s46:=s4'.trans s6;have htx:=hfx.2.2.1;refine⟨_,rfl,pw,Ad.CW,dw,_,_,rfl,s46 _ _ hpw,CW.cl,CW.no _ (by decide +kernel),Zim ..,q1,ll,_,_,rfl,rfl,l6,s46 _ _ hll,by rw[map_len];show 1+_<=_;omega,fun q2 hq2=>?_⟩;have s7:Zc H6 (upd H6 q2 (.lst ([V.int 2]++x.text.map iV))):=Zq hq2;have l7:upd H6 q2 (.lst ([V.int 2]++x.text.map iV)) q2=some (.lst ([V.int 2]++x.text.map iV)):=Zd;generalize upd H6 q2 (.lst ([V.int 2]++x.text.map iV))=H7 at s7 l7;have s47:=s46.trans s7;have p7:=s7 _ _ (s6 _ _ p5);have hcl:(Kgf1.changed s0 x.change).length=t.vars.length:=by rw[ZmK];exact hsl
   refine⟨_,rfl,p,Bd.pl,dx,_,_,rfl,p7,CP.cl,CP.no _ (by decide +kernel),Zfh ..,_,rfl,p,Bd.pl,dx,_,_,rfl,p7,CP.cl,CP.no _ (by decide +kernel),Zc9 ..,tl,lc,t,Kgf1.changed s0 x.change,rfl,(hTh.same s47).at_,hfn,SqL.of (s47 _ _ hlh),hcl,fun q3 hq3=>?_⟩;have s8:Zc H7 (upd H7 q3 (.lst ((Zcx t (Kgf1.changed s0 x.change)).map iV))):=Zq hq3;have l8:upd H7 q3 (.lst ((Zcx t (Kgf1.changed s0 x.change)).map iV)) q3=some (.lst ((Zcx t (Kgf1.changed s0 x.change)).map iV)):=Zd;generalize upd H7 q3 (.lst ((Zcx t (Kgf1.changed s0 x.change)).map iV))=H8 at s8 l8;have hsb:(Zcx t (Kgf1.changed s0 x.change)).length<=256 * 64:=by
    unfold Zcx;have a1:=ZmM (t.shows.filter fun y=>Kgf1.holds (Kgf1.changed s0 x.change) y.cond) fun z hz=>(hfn.sc z (List.mem_filter.mp hz).1).2;have a2:=List.length_filter_le (fun y=>Kgf1.holds (Kgf1.changed s0 x.change) y.cond) t.shows;have a3:t.shows.length<=64:=hfn.shows;omega
   refine⟨q2,q3,_,_,rfl,rfl,s8 _ _ l7,l8,?_,fun q4 hq4=>?_⟩
   ·rw[List.length_append,map_len,map_len];show 1+_+_<=_;omega
   have s9:∀o,Zc H8 (upd H8 q4 o):=fun o=>Zq hq4;have s49:∀o,Zc G4 (upd H8 q4 o):=fun o=>(s47.trans s8).trans (s9 o);have eans:([V.int 2]++x.text.map iV)++(Zcx t (Kgf1.changed s0 x.change)).map iV=ZcC ⟨2,Kgf1.told t (Kgf1.changed s0 x.change) x.text⟩:=by
    unfold ZcC Kgf1.told Zcx;rw[List.map_append];rfl
   refine k (some ⟨t,some (Kgf1.changed s0 x.change)⟩) ⟨2,Kgf1.told t (Kgf1.changed s0 x.change) x.text⟩ rfl q4 _ ⟨dx,.ref tl,lc,s9 _ _ _ (s8 _ _ p7),?_⟩ (fun b u n e=>s9 _ _ _ (s8 _ _ (s7 _ _ (s6 _ _ (fr5 b u n e))))) ?_ (by rw[Zd,eans]) ?_
   ·have sh:∀o,Zc G4 (hide p (upd H8 q4 o)):=fun o=>ZdI (s49 o) gp;exact⟨tl,Kgf1.changed s0 x.change,rfl,hTh.same (sh _),hg,sh _ _ _ hlh,hcl,fun s e=>(by cases e;rfl)⟩
   ·exact q5 ((s6.trans (s7.trans s8)).free hq4)
   ·rw[←eans,List.length_append,List.length_append,map_len,map_len];show 1+_+_<=_;omega
end
theorem Zn9(t:Kgf1.Tale):∀(m k:Nat)(l:List Kgf1.St),Tl.Walk t k l->k+m=Kgf2.MOST->∃k',Tl.Walk t k' (Kgf2.wander t m k l)/\((Kgf2.wander t m k l).length<=k'\/k'=Kgf2.MOST)
 |0,k,l,hW,hk=>⟨k,hW,.inr hk⟩
 |m+1,k,l,hW,hk=>by
  cases e:l[k]? with
  |none =>
   have hl:l.length<=k:=List.getElem?_eq_none_iff.mp e;rw[Tl.Zlv t _ k l hl];exact⟨k,hW,.inl hl⟩
  |some s =>
   rw[Tl.ZhH t m k e];exact Zn9 t m (k+1) _ (hW.turn e (by omega)) (by omega)
theorem Zvu{t:Kgf1.Tale}(hg:Za2 t)(h:(Kgf2.come t).length<=65536):Found t (Kgf2.come t):=by
 obtain⟨k,hW,hk⟩:=Zn9 t Kgf2.MOST 0 [Kgf1.first t] (Tl.Zlw t) (by omega);have hW:Tl.Walk t k (Kgf2.come t):=hW;have hl:(Kgf2.come t).length<=k:=by
  rcases hk with hk|hk
  ·exact hk
  ·rw[hk];exact h
 exact⟨hg,Tl.Zsa hg.ft,hW.closed hl,hW.nd,h⟩
abbrev outF:List Str:=["reach","trapped"]
def Zah(a b:V):List (Str×V):=[("reach",a),("trapped",b)]
theorem Zfm(a b:V):(Zah a b).lookup ("reach":Str)=some a:=Zaa
theorem ZgL(a b:V):(Zah a b).lookup ("trapped":Str)=some b:=(ZA (by decide +kernel)).trans Zaa
theorem ZdL(a b:V){m:Str}(h1:(m==("reach":Str))=false)(h2:(m==("trapped":Str))=false):(Zah a b).lookup m=none:=(ZA h1).trans (ZA h2)
theorem Zvv(a b c:V):Zw "reach" c (Zah a b)=Zah c b:=by
 unfold Zah;rw[Zel]
theorem Zvw(a b c:V):Zw "trapped" c (Zah a b)=Zah a c:=by
 unfold Zah;rw[ZE (by decide +kernel),Zel]
theorem Zbj.hide{Bd:Bds}{F:Hp}{p C dx r:Addr}{fs:List (Str×V)}{t:Kgf1.Tale}{l:List Kgf1.St}(hp:F p=some (.ins C dx fs))(n1:fs.lookup ("packed":Str)=none)(n2:fs.lookup ("bits":Str)=none)(h:Zbj Bd F r t l):Zbj Bd (hide p F) r t l:=by
 obtain⟨X,e,h1,h2,h3,h4,h5,h6⟩:=h.ex;have hpa:X.pa≠p:=by
  obtain⟨_,_,_,_,_,g,_⟩:=h2;intro z;rw[z,hp] at g;have:=(HO.ins.inj (Option.some.inj g)).2.2;rw[this,Zjp] at n2;cases n2
 exact⟨X,e,Zfk hp n1 h1 (by rw[ZdJ];simp),h2.hide hp hpa,Zag hp h3,ZnZ hp h4,Zag hp h5,Zag hp h6⟩
def ZgM(Bd:Bds)(F:Hp)(rv:V)(lt:Addr):Option Kgf2.Abs->Prop
 |none=>rv=.non
 |some x=>∃r,rv=.ref r/\Zbj Bd F r x.t x.l/\Found x.t x.l/\F lt=some (.lst ((Tl.ZbJ x.t x.l).map iV))
theorem ZgM.same{Bd:Bds}{F F':Hp}{rv:V}{lt:Addr}{a:Option Kgf2.Abs}(s:Zc F F')(h:ZgM Bd F rv lt a):ZgM Bd F' rv lt a:=by
 cases a with
 |none=>exact h
 |some x =>
  obtain⟨r,e,h1,h2,h3⟩:=h;exact⟨r,e,h1.same s,h2,s _ _ h3⟩
def Za4(Bd:Bds)(H:Hp)(p:Addr)(a:Option Kgf2.Abs):Prop:=∃dx rv lt,H p=some (.ins Bd.ou dx (Zah rv (.ref lt)))/\ZgM Bd (hide p H) rv lt a
def Zex(a:Kgf2.Ans):List V:=V.int a.value::a.out.map iV
def Zb2(Bd:Bds)(H:Hp)(p:Addr)(a:Option Kgf2.Abs)(c:Kgf2.Call)(Q:VK):Prop :=
 ∀a' ans,Kgf2.acts a c=some (a',ans)->∀q H',Za4 Bd H' p a'->(∀b u,b≠p->H b=some u->H' b=some u)->H q=none->H' q=some (.lst (Zex ans))->(Zex ans).length<=20000->Q (.ref q) H'
abbrev ZjO:Stmt:=inClass (top 113) 0
abbrev ZjP:Stmt:=inClass (top 113) 1
abbrev ZjQ:Stmt:=inClass (top 113) 2
abbrev ZjR:Stmt:=inClass (top 113) 3
abbrev ZjS:Stmt:=inClass (top 113) 4
section
theorem Za4.kept{H H':Hp}{p:Addr}{a:Option Kgf2.Abs}(h:Za4 Bd H p a)(s:Zc H H'):Za4 Bd H' p a:=by
 obtain⟨dx,rv,lt,h1,h2⟩:=h;exact⟨dx,rv,lt,s _ _ h1,h2.same (Zew fun b u _ e=>s _ _ e)⟩
def Zoa(Bd:Bds):Sp:=fun vs H Q _=>∃(p dx:Addr),vs=[.ref p]/\H p=some (.ins Bd.ou dx [])/\∀ln,H ln=none->Q .non (upd (upd H ln (.lst [])) p (.ins Bd.ou dx (Zah .non (.ref ln))))
theorem Zvx:Zo ["self"] ["self"] (Zi ZjO):=⟨rfl,rfl,rfl,by decide +kernel,rfl,by decide +kernel,by decide +kernel⟩
theorem Zvy(D:MethAt K Bd.ou "__init__" "Outlook.__init__" ZjO f)(hm:mg "Outlook"=some (.ref Bd.ou))(mk:PySem.W.makesIn K Bd.ou=true)(kc:PySem.W.keepIn K (.ref Bd.ou)=true)(CO:Zv K Bd.ou outF):ZaS P w K mg base CX0 1 "Outlook" Bd.ou ["self"] (Zoa Bd):=by
 refine D.ZcX hm mk kc Zvx (fun _ _ _ _ _ _ us hl=>match us,hl with|[_],_=>rfl) (fun vs H Q E h=>?_) (fun cdv A outer s H vs Q E hr h=>?_)
 ·obtain⟨p,dx,rfl,_⟩:=h;rfl
 ·obtain⟨p,dx,rfl,hp,k⟩:=h;refine⟨_,Ze (Z4 (pv 0) ZdN rfl) (Zh (Z4 (pv 0) (ZQ Zb) rfl)),?_⟩;refine⟨_,rfl,p,Bd.ou,dx,_,rfl,hp,CO.cl,CO.no _ (by decide +kernel),(by show 0 < 1000;decide),?_⟩;refine⟨by show 0<=sizeLine;decide,fun ln hln=>?_⟩;obtain⟨hlp,hln2⟩:=Z3 hln;refine⟨_,rfl,p,Bd.ou,dx,_,rfl,by rw[Zf hlp.symm,Zd],CO.cl,CO.no _ (by decide +kernel),(by show 1 < 1000;decide),?_⟩;have e:Zw "trapped" (V.ref ln) (Zw "reach" .non [])=Zah .non (.ref ln):=by
   have e1:Zw "reach" V.non []=[(("reach":Str),V.non)]:=rfl;rw[e1,ZE (by decide +kernel)];rfl
  rw[ZdA hlp,e];exact k ln hln2
def Zob(K:PySem.W.Frag)(Bd:Bds):Sp:=fun vs H Q _=>∃(p b:Addr)(a:Option Kgf2.Abs)(bs:List Nat),vs=[.ref p,.ref b]/\Za4 Bd H p a/\SqL K H b (bs.map iV)/\bs.length<=30000/\Zb2 Bd H p a (.read bs.length bs) Q
theorem Zoc:Zo ["self","text","reach"] ["self","text"] (Zi ZjP):=⟨rfl,rfl,rfl,by decide +kernel,rfl,by decide +kernel,by decide +kernel⟩
theorem Zvz(D:MethAt K Bd.ou "read" "Outlook.read" ZjP f)(CO:Zv K Bd.ou outF)(NL:XT K mg "TooLong" CL)(NE:XT K mg "NoTale" C)(NM:XT K mg "TooManyStates" CM)(hx1:PySem.W.exmOne K (.ref C) (.ref CL)=some false)(hx2:PySem.W.exmOne K (.ref CM) (.ref CL)=some false)(hx3:PySem.W.exmOne K (.ref CM) (.ref C)=some false)
  (hTL:GI mg "TOO_LONG" (-22)) (hNT:GI mg "NOT_A_TALE" (-71)) (hTM:GI mg "TOO_MANY_STATES" (-28)) (F1:Can P w K mg base (CX1 P w) 10 "tale_of" ["text"] (Ze7 K Ad C CL)) (F2:Can P w K mg base (CX1 P w) 8 "reach_of" ["tale"] (ZjC Ad Bd CM)) (F3:Can P w K mg base CX0 1 "stuck_places" ["reach"] (ZnW Bd)) :
  ZV P w K mg base CX0 11 Bd.ou "read" ["self","text"] (Zob K Bd):=by
 refine D.can Zoc (fun _ _ _ _ _ _ us hl=>match us,hl with|[_,_],_=>rfl) (fun vs H Q E h=>?_) (fun cdv A outer s H vs Q E hr h=>?_)
 ·obtain⟨p,b,a,bs,rfl,_⟩:=h;rfl
 ·obtain⟨p,b,a,bs,rfl,hP,hS,hz,k⟩:=h;refine⟨_,Ze (Zmc rfl rfl (tb:=fun E=>ZeB (Zb7 (ZjC Ad Bd CM) [] E (ZU (Zb7 (Ze7 K Ad C CL) [] E (ZU (ZH 1) Zaf)) Zaf)) (ZaP 2)) (fun pn W E hp=>Zh (Zx (i:=2) Zoc.nd rfl (Or.inl rfl) (Zp F2 hr hp (Za (Zp F1 hr hp (Za (pv 1) Zb)) Zb))))
    (PHs.cons NL.ex (by decide) rfl NL.mg (ts:=ZbO (Zb6 (ZU (tC (.int (-22))) Zaf))) (fun e=>Zh (Zm (ZQ (Za (Zu hTL) Zb)))) (by decide)
    (PHs.cons NE.ex (by decide) rfl NE.mg (ts:=ZbO (Zb6 (ZU (tC (.int (-71))) Zaf))) (fun e=>Zh (Zm (ZQ (Za (Zu hNT) Zb)))) (by decide)
    (PHs.cons NM.ex (by decide) rfl NM.mg (ts:=ZbO (Zb6 (ZU (tC (.int (-28))) Zaf))) (fun e=>Zh (Zm (ZQ (Za (Zu hTM) Zb)))) (by decide) .nil))))
   (Ze (Z4 (pv 0) (pv 2) rfl) (Ze (Z4 (pv 0) (Zp F3 hr Zs (Za (pv 2) Zb)) rfl) (Zh (Zm (ZQ (Za Zr Zb)))))),?_⟩
  obtain⟨dx,rv,lt,hp,hH⟩:=id hP;unfold Zb2 at k;have refuse:∀(v:Int)(H1:Hp),Zc H H1->Kgf2.acts a (.read bs.length bs)=some (a,Kgf2.bare v)->ZbO (Zb6 (ZU (tC (.int v)) Zaf)) { nx:=fun _ H'=>Q .non H',rt:=Q } (List.replicate 3 none) H1:=fun v H1 s1 e=>by
   refine⟨by show 1<=sizeLine;decide,fun q hq=>?_⟩;have s2:Zc H1 (upd H1 q (.lst [.int v])):=Zq hq;exact k a _ e q _ (hP.kept (s1.trans s2)) (fun b u _ e=>s2 _ _ (s1 _ _ e)) (s1.free hq) Zd (by show 1<=20000;omega)
  have eA:Kgf2.acts a (.read bs.length bs)=some (if Kgf1.MOST < bs.length then(a,Kgf2.bare (-22)) else match Kgf1.read bs with|none=>(a,Kgf2.bare (-71))|some t=>if Kgf2.MOST < (Kgf2.come t).length then(a,Kgf2.bare (-28)) else(some ⟨t,Kgf2.come t⟩,Kgf2.bare 0)):=rfl;refine⟨_,rfl,b,bs,rfl,hS,hz,fun hbig H1 s1=>.inl ⟨rfl,refuse (-22) H1 s1 ?_⟩,fun hle hno H1 s1=>.inr ⟨hx1,.inl ⟨rfl,refuse (-71) H1 s1 ?_⟩⟩,fun hle t tl H1 hyes s1 hT=>?_⟩
  ·rw[eA,if_pos (by show 24576 < bs.length;exact hbig)]
  ·rw[eA,if_neg (by show¬24576 < bs.length;omega),hno]
  ·obtain⟨hft,hok⟩:=Tl.Zl8 hyes;have hg:Za2 t:=⟨hft,hok⟩
   have eB:Kgf2.acts a (.read bs.length bs)=some (if Kgf2.MOST < (Kgf2.come t).length then(a,Kgf2.bare (-28)) else(some ⟨t,Kgf2.come t⟩,Kgf2.bare 0)):=by rw[eA,if_neg (by show¬24576 < bs.length;omega),hyes]
   refine⟨tl,t,rfl,hT,hg,fun hmany H2 s2=>.inr ⟨hx2,.inr ⟨hx3,.inl ⟨rfl,refuse (-28) H2 (s1.trans s2) ?_⟩⟩⟩,fun hfew r H2 s2 hR=>?_⟩
   ·rw[eB,if_pos (by show 65536 < _;exact hmany)]
   ·have s02:=s1.trans s2;have hp2:=s02 _ _ hp;have hF:=Zvu hg hfew;have hR2:=hR.hide hp2 (ZdL _ _ (by decide +kernel) (by decide +kernel)) (ZdL _ _ (by decide +kernel) (by decide +kernel));refine⟨_,rfl,_,rfl,p,Bd.ou,dx,_,rfl,hp2,CO.cl,CO.no _ (by decide +kernel),(by show 2 < 1000;decide),?_⟩;rw[Zvv];have s2':=ZbN p H2 (.ins Bd.ou dx (Zah (.ref r) (.ref lt)));have p2':upd H2 p (.ins Bd.ou dx (Zah (.ref r) (.ref lt))) p=some (.ins Bd.ou dx (Zah (.ref r) (.ref lt))):=Zd;have fr2:∀b u,b≠p->H b=some u->upd H2 p (.ins Bd.ou dx (Zah (.ref r) (.ref lt))) b=some u:=fun b u n e=>by rw[Zf n];exact s02 _ _ e
    have q2:∀{q},upd H2 p (.ins Bd.ou dx (Zah (.ref r) (.ref lt))) q=none->H q=none:=fun{q} e=>s02.free (Z3 e).2;generalize upd H2 p (.ins Bd.ou dx (Zah (.ref r) (.ref lt)))=H3 at s2' p2' fr2 q2;refine⟨_,rfl,r,t,Kgf2.come t,rfl,hR2.same s2',hF,fun lt2 H4 s4 hlt0 hlt=>?_⟩;have p4:=s4 _ _ p2';refine⟨_,rfl,p,Bd.ou,dx,_,rfl,p4,CO.cl,CO.no _ (by decide +kernel),(by show 2 < 1000;decide),?_⟩;rw[Zvw];have s4':=ZbN p H4 (.ins Bd.ou dx (Zah (.ref r) (.ref lt2)));have p4':upd H4 p (.ins Bd.ou dx (Zah (.ref r) (.ref lt2))) p=some (.ins Bd.ou dx (Zah (.ref r) (.ref lt2))):=Zd;have fr4:∀b u,b≠p->H b=some u->upd H4 p (.ins Bd.ou dx (Zah (.ref r) (.ref lt2))) b=some u:=fun b u n e=>by rw[Zf n];exact s4 _ _ (fr2 b u n e)
    have q4:∀{q},upd H4 p (.ins Bd.ou dx (Zah (.ref r) (.ref lt2))) q=none->H q=none:=fun{q} e=>q2 (s4.free (Z3 e).2);have hRh:=((hR2.same s2').same s4).hide p4 (ZdL _ _ (by decide +kernel) (by decide +kernel)) (ZdL _ _ (by decide +kernel) (by decide +kernel));have hlh:=Zag p4 hlt;generalize upd H4 p (.ins Bd.ou dx (Zah (.ref r) (.ref lt2)))=H5 at s4' p4' fr4 q4;refine⟨by show 1<=sizeLine;decide,fun q hq=>?_⟩;have s6:Zc H5 (upd H5 q (.lst [.int 0])):=Zq hq;refine k (some ⟨t,Kgf2.come t⟩) (Kgf2.bare 0) ?_ q _ ⟨dx,.ref r,lt2,s6 _ _ p4',?_⟩ (fun b u n e=>s6 _ _ (fr4 b u n e)) (q4 hq) Zd (by show 1<=20000;omega)
    ·rw[eB,if_neg (by show¬65536 < _;omega)]
    ·have sh:Zc (hide p H4) (hide p (upd H5 q (.lst [.int 0]))):=ZdI (s4'.trans s6) (hide_self _ _);exact⟨r,rfl,hRh.same sh,hF,sh _ _ hlh⟩
def Zod(K:PySem.W.Frag)(Bd:Bds):Sp:=fun vs H Q _=>∃(p b:Addr)(x:Kgf2.Abs)(ns:List Nat),vs=[.ref p,.ref b]/\Za4 Bd H p (some x)/\SqL K H b (ns.map iV)/\ns.length=24/\Zb2 Bd H p (some x) (.best ns) Q
theorem ZjT:Zo ["self","numbers","place","far"] ["self","numbers"] (Zi ZjQ):=⟨rfl,rfl,rfl,by decide +kernel,rfl,by decide +kernel,by decide +kernel⟩
def ZjU(x:Kgf2.Abs)(y:Kgf1.St):Option Nat->Kgf2.Ans
 |none=>Kgf2.bare (-1)
 |some n=>⟨(n:Nat),if n=0 then[] else(Kgf2.best x.t x.l y n).toList⟩
def ZgN(x:Kgf2.Abs):Option Kgf1.St->Kgf2.Ans
 |none=>Kgf2.bare (-2)
 |some y=>ZjU x y (Kgf2.far x.t x.l y)
theorem ZvA(x:Kgf2.Abs)(ns:List Nat):Kgf2.acts (some x) (.best ns)=some (some x,ZgN x (x.l.find? fun y=>Kgf2.flat y==ns)):=by
 unfold ZgN ZjU;rfl
theorem ZvB(D:MethAt K Bd.ou "best" "Outlook.best" ZjQ f)(CO:Zv K Bd.ou outF)(CR:Zv K Bd.re reachF)(hNS:GI mg "NONE_SUCH" (-2))(F1:Can P w K mg base CX0 2 "place_of" ["reach","numbers"] (ZnT K Bd))(F2:Can P w K mg base CX0 2 "nearer_when" ["reach","place"] (ZnX Bd)) :
  ZV P w K mg base CX0 3 Bd.ou "best" ["self","numbers"] (Zod K Bd):=by
 refine D.can ZjT (fun _ _ _ _ _ _ us hl=>match us,hl with|[_,_],_=>rfl) (fun vs H Q E h=>?_) (fun cdv A outer s H vs Q E hr h=>?_)
 ·obtain⟨p,b,x,ns,rfl,_⟩:=h;rfl
 ·obtain⟨p,b,x,ns,rfl,hP,hS,h24,k⟩:=h;obtain⟨dx,rv,lt,hp,r,rfl,hR,hF,hlt⟩:=id hP;refine⟨_,Ze (Zx (i:=2) ZjT.nd rfl (Or.inl rfl) (Zp F1 hr Zs (Za (Zl (pv 0) rfl) (Za (pv 1) Zb))))
   (Ze (Zy (ZC Zkf (pv 2) ZdN (Zz _)) (Zh (Zm (ZQ (Za (Zu hNS) Zb)))) ZD)
   (Ze (Zx (i:=3) ZjT.nd rfl (Or.inl rfl) (ZG ZO (Zl (Zl (pv 0) rfl) rfl) (pv 2) (fun _ _=>rfl)))
   (Ze (Zy (ZC ZbR (pv 3) Zr (Zz _)) (Zh (Zm (ZQ (Za (pv 3) Zb)))) ZD)
   (Zh (Zm (ZQ (Za (pv 3) (Za (Zp F2 hr Zs (Za (Zl (pv 0) rfl) (Za (pv 2) Zb))) Zb)))))))),?_⟩
  have hRH:=hR.same (Za7 p H);unfold Zb2 at k;rw[ZvA] at k;have fin:∀(H1:Hp)(vs:List V)(q:Addr),Zc H H1->H1 q=none->Zex (ZgN x (x.l.find? fun y=>Kgf2.flat y==ns))=vs->vs.length<=2->Q (.ref q) (upd H1 q (.lst vs)):=fun H1 vs q s1 hq e hl=>by
   have s2:Zc H1 (upd H1 q (.lst vs)):=Zq hq;exact k _ _ rfl q _ (hP.kept (s1.trans s2)) (fun b u _ e=>s2 _ _ (s1 _ _ e)) (s1.free hq) (by rw[Zd,e]) (by rw[e];omega)
  refine⟨_,rfl,p,Bd.ou,dx,_,_,rfl,hp,CO.cl,CO.no _ (by decide +kernel),Zfm ..,_,rfl,r,b,x.t,x.l,ns,rfl,hRH,hF,hS,h24,fun y i H1 hfy hiy s1=>?_,fun hno H1 s1=>?_⟩;rotate_left
  ·refine⟨_,rfl,rfl,_,rfl,ifD rfl ⟨by show 1<=sizeLine;decide,fun q hq=>fin H1 _ q s1 hq ?_ (by show 1<=2;omega)⟩⟩;rw[hno];rfl
  refine⟨_,rfl,rfl,_,rfl,ifN (fun z=>by cases z) ?_⟩;obtain⟨X,rfl,x1,x2,x3,x4,x5,x6⟩:=hRH.ex;have hfar:((x.l.map (Kgf2.far x.t x.l)).map Zaj)[i]?=some (Zaj (Kgf2.far x.t x.l y)):=by rw[List.getElem?_map,List.getElem?_map,hiy];rfl
  refine⟨_,rfl,p,Bd.ou,dx,_,_,rfl,s1 _ _ hp,CO.cl,CO.no _ (by decide +kernel),Zfm ..,X.r,Bd.re,X.dx,_,_,rfl,s1 _ _ x1,CR.cl,CR.no _ (by decide +kernel),ZgD ..,_,rfl,X.fa,_,_,_,rfl,rfl,SqL.of (s1 _ _ x6),ZF hfar,?_⟩;have eM:ZgN x (x.l.find? fun y=>Kgf2.flat y==ns)=ZjU x y (Kgf2.far x.t x.l y):=by rw[hfy];rfl
  cases hf:Kgf2.far x.t x.l y with
  |none =>
   rw[hf] at eM;refine⟨_,rfl,_,_,rfl,rfl,_,rfl,ifD (by show(-1:Int)<=0;decide) ⟨_,rfl,by show 1<=sizeLine;decide,fun q hq=>fin H1 _ q s1 hq ?_ (by show 1<=2;omega)⟩⟩;rw[eM];rfl
  |some n =>
   rw[hf] at eM;cases n with
   |zero =>
    refine⟨_,rfl,_,_,rfl,rfl,_,rfl,ifD (by show((0:Nat):Int)<=0;decide) ⟨_,rfl,by show 1<=sizeLine;decide,fun q hq=>fin H1 _ q s1 hq ?_ (by show 1<=2;omega)⟩⟩;rw[eM];rfl
   |succ n =>
    refine⟨_,rfl,_,_,rfl,rfl,_,rfl,ifN (by show¬(((n+1:Nat):Int)<=0);omega) ?_⟩;refine⟨_,rfl,_,rfl,p,Bd.ou,dx,_,_,rfl,s1 _ _ hp,CO.cl,CO.no _ (by decide +kernel),Zfm ..,_,rfl,X.r,i,n,x.t,x.l,y,rfl,hRH.same s1,hF,hiy,hf,fun m H2 hb s2=>?_⟩;refine⟨by show 2<=sizeLine;decide,fun q hq=>fin H2 _ q (s1.trans s2) hq ?_ (by show 2<=2;omega)⟩;rw[eM];show Zex ⟨((n+1:Nat):Int),if n+1=0 then[] else(Kgf2.best x.t x.l y (n+1)).toList⟩=_;rw[if_neg (by omega),hb];rfl
end
section
def Zoe(Bd:Bds):Sp:=fun vs H Q _=>∃(p:Addr)(x:Kgf2.Abs),vs=[.ref p]/\Za4 Bd H p (some x)/\Zb2 Bd H p (some x) .look Q
theorem ZjV:Zo ["self","statuses","safe"] ["self"] (Zi ZjR):=⟨rfl,rfl,rfl,by decide +kernel,rfl,by decide +kernel,by decide +kernel⟩
theorem Zof(t:Kgf1.Tale)(l:List Kgf1.St)(n:Nat):((l.map (Kgf1.status t)).map iV).countP (fun z=>eqV z (V.int (n:Int)))=l.countP fun s=>Kgf1.status t s==n:=by
 rw[List.countP_map,List.countP_map];congr 1;funext s;show(((Kgf1.status t s:Nat):Int)==((n:Nat):Int))=(Kgf1.status t s==n)
 rw[Bool.eq_iff_iff,beq_iff_eq,beq_iff_eq];omega
theorem ZvC(l:List Nat):(l.map iV).all Zbq=true:=by
 rw[List.all_map,List.all_eq_true];intro x _;rfl
theorem ZvD(D:MethAt K Bd.ou "look" "Outlook.look" ZjR f)(CO:Zv K Bd.ou outF)(CR:Zv K Bd.re reachF)(hlen:mg "len"=none)(hW:GI mg "WON" 1)(hL:GI mg "LOST" 2):ZV P w K mg base CX0 1 Bd.ou "look" ["self"] (Zoe Bd):=by
 refine D.can ZjV (fun _ _ _ _ _ _ us hl=>match us,hl with|[_],_=>rfl) (fun vs H Q E h=>?_) (fun cdv A outer s H vs Q E hr h=>?_)
 ·obtain⟨p,x,rfl,_⟩:=h;rfl
 ·obtain⟨p,x,rfl,hP,k⟩:=h;obtain⟨dx,rv,lt,hp,r,rfl,hR,hF,hlt⟩:=id hP;have hRH:=hR.same (Za7 p H);have hltH:=Za7 p H _ _ hlt;obtain⟨X,rfl,x1,x2,x3,x4,x5,x6⟩:=hRH.ex;refine⟨_,Ze (Zx (i:=1) ZjV.nd rfl (Or.inl rfl) (Zl (Zl (pv 0) rfl) rfl))
   (Ze (Zx (i:=2) ZjV.nd rfl (Or.inl rfl) (ZdS (ZC Z9 (ZN Z0 (by rfl) hlen PySem.boot_len (Za (Zl (pv 0) rfl) Zb)) Zr (Zz _)) Zr Zr))
   (Zh (Zm (ZQ (Za (pv 2) (Za (ZN Z0 (by rfl) hlen PySem.boot_len (Za (pv 1) Zb)) (Za (Zax PySem.F.plainAttrs_list PySem.F.slot_list_count PySem.F.type_list_count Zmf (pv 1) (Za (Zu hW) Zb))
    (Za (Zax PySem.F.plainAttrs_list PySem.F.slot_list_count PySem.F.type_list_count Zmf (pv 1) (Za (Zu hL) Zb)) (Za (ZN Z0 (by rfl) hlen PySem.boot_len (Za (Zl (pv 0) rfl) Zb)) Zb))))))))),?_⟩
  have fl:=ZvC (x.l.map (Kgf1.status x.t));have est:Kgf2.stuck x.t x.l=(Tl.ZbJ x.t x.l).map fun p=>x.l.getD p []:=Tl.Zl2 hF.cl;have esl:(Kgf2.stuck x.t x.l).length=(Tl.ZbJ x.t x.l).length:=by rw[est,List.length_map]
  refine⟨_,rfl,p,Bd.ou,dx,_,_,rfl,hp,CO.cl,CO.no _ (by decide +kernel),Zfm ..,X.r,Bd.re,X.dx,_,_,rfl,x1,CR.cl,CR.no _ (by decide +kernel),Zfd ..,?_⟩;have fin:∀v:Int,v=(if(Kgf2.stuck x.t x.l).isEmpty then 1 else 0)->∀σ,σ=[some (V.ref p),some (V.ref X.ss),some (V.int v)]->∀q,H q=none->Q (.ref q) (upd H q (.lst [V.int v,V.int ((((x.l.map (Kgf1.status x.t)).map iV).length:Nat):Int),V.int ((((x.l.map (Kgf1.status x.t)).map iV).countP (fun z=>eqV z (V.int 1)):Nat):Int),V.int ((((x.l.map (Kgf1.status x.t)).map iV).countP (fun z=>eqV z (V.int 2)):Nat):Int),V.int ((((Tl.ZbJ x.t x.l).map iV).length:Nat):Int)])):=fun v hv σ _ q hq=>by
   have s2:Zc H (upd H q (.lst [V.int v,V.int ((((x.l.map (Kgf1.status x.t)).map iV).length:Nat):Int),V.int ((((x.l.map (Kgf1.status x.t)).map iV).countP (fun z=>eqV z (V.int 1)):Nat):Int),V.int ((((x.l.map (Kgf1.status x.t)).map iV).countP (fun z=>eqV z (V.int 2)):Nat):Int),V.int ((((Tl.ZbJ x.t x.l).map iV).length:Nat):Int)])):=Zq hq;refine k (some x) ⟨if(Kgf2.stuck x.t x.l).isEmpty then 1 else 0,[x.l.length,x.l.countP fun s=>Kgf1.status x.t s==1,x.l.countP fun s=>Kgf1.status x.t s==2,(Kgf2.stuck x.t x.l).length]⟩ rfl q _ (hP.kept s2) (fun b u _ e=>s2 _ _ e) hq ?_ (by show 5<=20000;omega);have c1:=Zof x.t x.l 1;have c2:=Zof x.t x.l 2;have c1':((x.l.map (Kgf1.status x.t)).map iV).countP (fun z=>eqV z (V.int 1))=x.l.countP fun s=>Kgf1.status x.t s==1:=c1;have c2':((x.l.map (Kgf1.status x.t)).map iV).countP (fun z=>eqV z (V.int 2))=x.l.countP fun s=>Kgf1.status x.t s==2:=c2;rw[Zd,c1',c2',hv,map_len,map_len,List.length_map,←esl];rfl
  refine⟨_,rfl,p,Bd.ou,dx,_,_,rfl,hp,CO.cl,CO.no _ (by decide +kernel),ZgL ..,lt,_,rfl,.inl (SqL.of hltH),rfl,_,rfl,?_⟩;have tail:∀v:Int,v=(if(Kgf2.stuck x.t x.l).isEmpty then 1 else 0)->ZbO (Zb6 (ZU (ZH 2) (ZU (tCB (fun xs H Q=>∃p ys,xs=[.ref p]/\(SqL K H p ys\/SqT K H p ys)/\Q (.int ys.length) H) (ZU (ZH 1) Zaf)) (ZU (tBM K "list" (Zh2 K) (ZH 1) (ZU (tC (.int 1)) Zaf)) (ZU (tBM K "list" (Zh2 K) (ZH 1) (ZU (tC (.int 2)) Zaf)) (ZU (tCB (fun xs H Q=>∃p ys,xs=[.ref p]/\(SqL K H p ys\/SqT K H p ys)/\Q (.int ys.length) H) (ZU (Zbo K (ZH 0) "trapped") Zaf)) Zaf)))))) { nx:=fun _ H'=>Q .non H',rt:=Q } [some (V.ref p),some (V.ref X.ss),some (V.int v)] H:=fun v hv=>by
   refine⟨_,rfl,_,rfl,X.ss,_,rfl,.inl (SqL.of x5),_,rfl,.inl ⟨rfl,_,SqL.of x5⟩,X.ss,_,_,rfl,rfl,SqL.of x5,rfl,fl,_,rfl,.inl ⟨rfl,_,SqL.of x5⟩,X.ss,_,_,rfl,rfl,SqL.of x5,rfl,fl,_,rfl,p,Bd.ou,dx,_,_,rfl,hp,CO.cl,CO.no _ (by decide +kernel),ZgL ..,lt,_,rfl,.inl (SqL.of hltH),by show 5<=sizeLine;decide,fun q hq=>?_⟩;exact fin v hv _ rfl q hq
  by_cases he:(Tl.ZbJ x.t x.l).length=0
  ·refine ifD (by rw[map_len,he];rfl) (tail 1 ?_);have:(Kgf2.stuck x.t x.l).isEmpty=true:=by rw[List.isEmpty_iff,←List.length_eq_zero_iff,esl];exact he
   rw[this];rfl
  ·refine ifN (fun z=>he (by have:=V.int.inj z;rw[map_len] at this;omega)) (tail 0 ?_);have:(Kgf2.stuck x.t x.l).isEmpty=false:=by
    cases e:(Kgf2.stuck x.t x.l).isEmpty with
    |false=>rfl
    |true =>
     rw[List.isEmpty_iff,←List.length_eq_zero_iff,esl] at e;exact absurd e he
   rw[this];rfl
def Zog(Bd:Bds):Sp:=fun vs H Q _=>∃(p:Addr)(n:Nat)(x:Kgf2.Abs),vs=[.ref p,iV n]/\Za4 Bd H p (some x)/\Zb2 Bd H p (some x) (.stuck n) Q
theorem ZvE:Zo ["self","which"] ["self","which"] (Zi ZjS):=⟨rfl,rfl,rfl,by decide +kernel,rfl,by decide +kernel,by decide +kernel⟩
def ZjW:Option Kgf1.St->Kgf2.Ans
 |none=>Kgf2.bare (-2)
 |some s=>⟨0,Kgf2.flat s⟩
theorem ZvF(x:Kgf2.Abs)(n:Nat):Kgf2.acts (some x) (.stuck n)=some (some x,ZjW ((Kgf2.stuck x.t x.l)[n]?)):=by
 unfold ZjW;rfl
theorem ZvG(D:MethAt K Bd.ou "stuck" "Outlook.stuck" ZjS f)(CO:Zv K Bd.ou outF)(hlen:mg "len"=none)(hNS:GI mg "NONE_SUCH" (-2))(F1:Can P w K mg base CX0 2 "numbers_at" ["reach","place"] (ZnV Bd)):ZV P w K mg base CX0 3 Bd.ou "stuck" ["self","which"] (Zog Bd):=by
 refine D.can ZvE (fun _ _ _ _ _ _ us hl=>match us,hl with|[_,_],_=>rfl) (fun vs H Q E h=>?_) (fun cdv A outer s H vs Q E hr h=>?_)
 ·obtain⟨p,n,x,rfl,_⟩:=h;rfl
 ·obtain⟨p,n,x,rfl,hP,k⟩:=h;obtain⟨dx,rv,lt,hp,r,rfl,hR,hF,hlt⟩:=id hP;have big:sizeLine=16777216:=by decide
  have hRH:=hR.same (Za7 p H);have hltH:=Za7 p H _ _ hlt;refine⟨_,Ze (Zy (ZC Zke (pv 1) (ZN Z0 (by rfl) hlen PySem.boot_len (Za (Zl (pv 0) rfl) Zb)) (Zz _)) (Zh (Zm (ZQ (Za (Zu hNS) Zb)))) ZD)
   (Zh (Zm (ZY ZdX (ZQ (Za Zr Zb)) (Zp F1 hr Zs (Za (Zl (pv 0) rfl) (Za (ZG ZO (Zl (pv 0) rfl) (pv 1) (fun _ _=>rfl)) Zb)))))),?_⟩
  unfold Zb2 at k;rw[ZvF,Tl.Zl2 hF.cl,List.getElem?_map] at k;refine⟨_,rfl,_,rfl,p,Bd.ou,dx,_,_,rfl,hp,CO.cl,CO.no _ (by decide +kernel),ZgL ..,lt,_,rfl,.inl (SqL.of hltH),_,_,rfl,rfl,_,rfl,?_⟩;by_cases hn:n < (Tl.ZbJ x.t x.l).length
  ·refine ifN (by rw[map_len];omega) ?_;obtain⟨i,hi⟩:∃i,(Tl.ZbJ x.t x.l)[n]?=some i:=⟨_,List.getElem?_eq_getElem hn⟩
   have hil:i < x.l.length:=by
    have:=List.mem_of_getElem? hi;unfold Tl.ZbJ at this;exact List.mem_range.mp (List.mem_filter.mp this).1
   obtain⟨st,hst⟩:∃st,x.l[i]?=some st:=⟨_,List.getElem?_eq_getElem hil⟩
   rw[hi] at k;have k:∀a' ans,some (some x,ZjW (some (x.l.getD i [])))=some (a',ans)->_:=k;rw[Tl.getD_at hst] at k;refine⟨by show 1<=sizeLine;decide,fun q1 hq1=>?_⟩;have s1:Zc H (upd H q1 (.lst [V.int 0])):=Zq hq1;have l1:upd H q1 (.lst [V.int 0]) q1=some (.lst [V.int 0]):=Zd;generalize upd H q1 (.lst [V.int 0])=H1 at s1 l1;refine⟨_,rfl,p,Bd.ou,dx,_,_,rfl,s1 _ _ hp,CO.cl,CO.no _ (by decide +kernel),Zfm ..,_,rfl,p,Bd.ou,dx,_,_,rfl,s1 _ _ hp,CO.cl,CO.no _ (by decide +kernel),ZgL ..,_,rfl,lt,_,_,_,rfl,rfl,SqL.of (s1 _ _ hltH),ZF (Zbe hi),r,i,x.t,x.l,st,rfl,hRH.same s1,hF,hst,fun q2 H2 s2 hq2=>?_⟩;have hfl:(Kgf2.flat st).length=24:=by unfold Kgf2.flat;rw[List.length_map,List.length_range]
   refine⟨q1,q2,_,_,rfl,rfl,s2 _ _ l1,hq2,by rw[map_len,hfl];show 1+24<=_;omega,fun q3 hq3=>?_⟩;have s3:∀o,Zc H (upd H2 q3 o):=fun o=>(s1.trans s2).trans (Zq hq3);refine k _ _ rfl q3 _ (hP.kept (s3 _)) (fun b u _ e=>s3 _ _ _ e) ((s1.trans s2).free hq3) Zd ?_;show((V.int 0::(Kgf2.flat st).map iV):List V).length<=20000;rw[List.length_cons,map_len,hfl];omega
  ·refine ifD (by rw[map_len];omega) ⟨by show 1<=sizeLine;decide,fun q hq=>?_⟩;rw[List.getElem?_eq_none_iff.mpr (by omega)] at k;have s2:Zc H (upd H q (.lst [V.int (-2)])):=Zq hq;exact k _ _ rfl q _ (hP.kept s2) (fun b u _ e=>s2 _ _ e) hq Zd (by show 1<=20000;omega)
end
abbrev ZjX:Stmt:=top 114
abbrev ZjY:Stmt:=top 115
abbrev ZjZ:Stmt:=top 116
abbrev cI(bs:List Nat):List Int:=bs.map fun(n:Nat)=>(n:Int)
inductive ZcE:List Int->Kgf1.Call->Prop
 |read (bs:List Nat) (h:bs.length<=30000):ZcE (0::(bs.length:Int)::cI bs) (.read bs.length bs)
 |start:ZcE [1] .start
 |say (bs:List Nat) (h:bs.length<=30000):ZcE (2::(bs.length:Int)::cI bs) (.say bs.length bs)
 |status:ZcE [3] .status
 |state:ZcE [4] .state
inductive ZcF:List Int->Kgf2.Call->Prop
 |read (bs:List Nat) (h:bs.length<=30000):ZcF (10::(bs.length:Int)::cI bs) (.read bs.length bs)
 |best (ns:List Nat) (h:ns.length=24):ZcF (11::(ns.length:Int)::cI ns) (.best ns)
 |look:ZcF [12] .look
 |stuck (n:Nat):ZcF [13,(n:Int)] (.stuck n)
theorem ZgO(a b:V)(xs:List V):Zba (a::b::xs) (some 2) none=xs:=by
 unfold Zba;have e1:HT.sIx (a::b::xs).length 0 (some 2)=2:=by
  have:=HT.ZdW (a::b::xs).length 0 2;rw[show((2:Nat):Int)=(2:Int) from rfl] at this;rw[this];show min 2 (xs.length+1+1)=2;omega
 have e2:HT.sIx (a::b::xs).length (a::b::xs).length none=(a::b::xs).length:=rfl;rw[e1,e2];show xs.take (xs.length+1+1 - 2)=xs;exact List.take_of_length_le (by omega)
section
theorem Za3.kept{H H':Hp}{p:Addr}{a:Option Kgf1.Abs}(h:Za3 Ad Bd H p a)(s:Zc H H'):Za3 Ad Bd H' p a:=by
 obtain⟨dx,tv,ln,h1,h2⟩:=h;exact⟨dx,tv,ln,s _ _ h1,h2.same (Zew fun b u _ e=>s _ _ e)⟩
theorem Zb1.mono{H H1:Hp}{p:Addr}{a:Option Kgf1.Abs}{c:Kgf1.Call}{Q:VK}(h:Zb1 Ad Bd H p a c Q)(s:Zc H H1):Zb1 Ad Bd H1 p a c Q:=fun a' ans e q H' h1 h2 h3 h4 h5=>h a' ans e q H' h1 (fun b u n e=>h2 b u n (s _ _ e)) (s.free h3) h4 h5
theorem Zb2.mono{H H1:Hp}{p:Addr}{a:Option Kgf2.Abs}{c:Kgf2.Call}{Q:VK}(h:Zb2 Bd H p a c Q)(s:Zc H H1):Zb2 Bd H1 p a c Q:=fun a' ans e q H' h1 h2 h3 h4 h5=>h a' ans e q H' h1 (fun b u n e=>h2 b u n (s _ _ e)) (s.free h3) h4 h5
def Zoh(K:PySem.W.Frag):Sp:=fun vs H Q _=>∃(a:Addr)(i:Nat)(ns t:List Int)(c:List (List Int)),vs=[.ref a,iV i]/\SqL K H a (ns.map V.int)/\i<=ns.length/\Tl.Zci (ns.drop i) c t/\∀H',Zc H H'->Q (iV (ns.length - t.length)) H'
theorem ZvH:Zo ["calls","place"] ["calls","place"] (Zi ZjZ):=⟨rfl,rfl,rfl,by decide +kernel,rfl,by decide +kernel,by decide +kernel⟩
theorem ZvI(D:Zj K mg "end_of_call" ZjZ f)(c0:GI mg "READ" 0)(c2:GI mg "SAY" 2)(c10:GI mg "READ_AHEAD" 10)(c11:GI mg "BEST" 11)(c13:GI mg "STUCK" 13):Can P w K mg base CX0 1 "end_of_call" ["calls","place"] (Zoh K):=by
 refine D.can ZvH (fun _ _ _ _ _ _ us hl=>match us,hl with|[_,_],_=>rfl) (fun vs H Q E h=>?_) (fun cdv A outer s H vs Q E hr h=>?_)
 ·obtain⟨a,i,ns,t,c,rfl,_⟩:=h;rfl
 ·obtain⟨a,i,ns,t,c,rfl,hA,hi,hC,k⟩:=h;refine⟨_,Ze (Zy (ZC ZkC (ZG ZO (pv 0) (pv 1) (fun _ _=>rfl)) (Zdi (Za (Zu c0) (Za (Zu c2) (Za (Zu c10) (Za (Zu c11) Zb))))) rfl)
    (Zh (Zm (ZY ZbD (ZY ZbD (pv 1) Zr) (ZG ZO (pv 0) (ZY ZbD (pv 1) Zr) (fun _ _=>rfl))))) ZD)
   (Ze (Zy (ZC Z9 (ZG ZO (pv 0) (pv 1) (fun _ _=>rfl)) (Zu c13) (Zz _)) (Zh (Zm (ZY ZbD (pv 1) Zr))) ZD)
   (Zh (Zm (ZY ZbD (pv 1) Zr)))),?_⟩
  have at_:∀{j:Nat}{v:Int},(ns.drop i)[j]?=some v->(ns.map V.int)[i+j]?=some (.int v):=fun{j v} h=>by
   rw[List.getElem?_drop] at h;rw[List.getElem?_map,h];rfl
  have len:(ns.drop i).length=ns.length - i:=List.length_drop;generalize hd:ns.drop i=d at hC at_ len;have num:∀{n:Nat}{v:V}{H':Hp},ns.length - t.length=n->v=iV n->Zc H H'->Q v H':=fun h1 h2 s=>by
   rw[h2,←h1];exact k _ s
  cases hC with
  |Zh0 p x t hp =>
   have h0:=at_ (j:=0) (v:=p) rfl;rw[Nat.add_zero] at h0;have h1:=at_ (j:=1) (v:=(x.length:Int)) rfl;refine⟨_,rfl,_,rfl,a,_,_,_,rfl,rfl,hA,ZF h0,by show 4<=sizeLine;decide,fun tp htp=>?_⟩;have s1:Zc H (upd H tp (.tup [V.int 0,V.int 2,V.int 10,V.int 11])):=Zq htp;refine⟨tp,_,rfl,.inr (SqT.of Zd),rfl,rfl,_,rfl,?_⟩;have hin:inV (V.int p) [V.int 0,V.int 2,V.int 10,V.int 11]=true:=by
    rcases hp with rfl|rfl|rfl|rfl<;>rfl
   refine ifB (by show inV (V.int p) [V.int 0,V.int 2,V.int 10,V.int 11]=true;exact hin) ?_;have hat:atI (ns.map V.int) ((i:Int)+1)=some (.int (x.length:Int)):=by
    have:=ZF h1;push_cast at this;exact this
   refine⟨_,rfl,_,_,rfl,rfl,_,rfl,_,rfl,_,_,rfl,rfl,a,_,_,_,rfl,rfl,s1.seq hA,hat,_,_,rfl,rfl,?_⟩;have e:ns.length - t.length=i+2+x.length:=by
    have:(p::(x.length:Int)::(x++t)).length=x.length+t.length+1+1:=by rw[List.length_cons,List.length_cons,List.length_append]
    rw[this] at len;omega
   refine num e ?_ s1;show V.int ((i:Int)+2+(x.length:Int))=V.int ((i+2+x.length:Nat):Int);congr 1
  |bare p t hp =>
   have h0:=at_ (j:=0) (v:=p) rfl;rw[Nat.add_zero] at h0;refine⟨_,rfl,_,rfl,a,_,_,_,rfl,rfl,hA,ZF h0,by show 4<=sizeLine;decide,fun tp htp=>?_⟩;have s1:Zc H (upd H tp (.tup [V.int 0,V.int 2,V.int 10,V.int 11])):=Zq htp;refine⟨tp,_,rfl,.inr (SqT.of Zd),rfl,rfl,_,rfl,?_⟩;have hin:inV (V.int p) [V.int 0,V.int 2,V.int 10,V.int 11]=false:=by
    rcases hp with rfl|rfl|rfl|rfl<;>rfl
   refine ifF (by show inV (V.int p) [V.int 0,V.int 2,V.int 10,V.int 11]=false;exact hin) ?_;refine⟨_,rfl,_,rfl,a,_,_,_,rfl,rfl,s1.seq hA,ZF h0,rfl,_,rfl,?_⟩;refine ifN (fun z=>by have z':p=13:=V.int.inj z;omega) ⟨_,rfl,_,_,rfl,rfl,?_⟩;have e:ns.length - t.length=i+1:=by
    rw[List.length_cons] at len;omega
   refine num e ?_ s1;show V.int ((i:Int)+1)=V.int ((i+1:Nat):Int);congr 1
  |num kk t =>
   have h0:=at_ (j:=0) (v:=13) rfl;rw[Nat.add_zero] at h0;refine⟨_,rfl,_,rfl,a,_,_,_,rfl,rfl,hA,ZF h0,by show 4<=sizeLine;decide,fun tp htp=>?_⟩;have s1:Zc H (upd H tp (.tup [V.int 0,V.int 2,V.int 10,V.int 11])):=Zq htp;refine⟨tp,_,rfl,.inr (SqT.of Zd),rfl,rfl,_,rfl,?_⟩;refine ifF rfl ?_;refine⟨_,rfl,_,rfl,a,_,_,_,rfl,rfl,s1.seq hA,ZF h0,rfl,_,rfl,?_⟩;refine ifD rfl ⟨_,rfl,_,_,rfl,rfl,?_⟩;have e:ns.length - t.length=i+2:=by
    rw[List.length_cons,List.length_cons] at len;omega
   refine num e ?_ s1;show V.int ((i:Int)+2)=V.int ((i+2:Nat):Int);congr 1
def Zoi(Ad:Ads)(Bd:Bds):Sp:=fun vs H Q _=>∃(p c:Addr)(a:Option Kgf1.Abs)(raw:List Int)(kc:Kgf1.Call),vs=[.ref p,.ref c]/\Za3 Ad Bd H p a/\H c=some (.lst (raw.map V.int))/\ZcE raw kc/\Kgf1.acts a kc≠none/\Zb1 Ad Bd H p a kc Q
theorem Zoj:Zo ["play","call","number"] ["play","call"] (Zi ZjX):=⟨rfl,rfl,rfl,by decide +kernel,rfl,by decide +kernel,by decide +kernel⟩
theorem ZvJ(D:Zj K mg "answer_of_play" ZjX f)(CP:Zv K Bd.pl Zc8)(c0:GI mg "READ" 0)(c1:GI mg "START" 1)(c2:GI mg "SAY" 2)(c3:GI mg "STATUS" 3)(c4:GI mg "STATE" 4)
  (F0:ZV P w K mg base CX0 11 Bd.pl "read" ["self","text"] (Zn1 K Ad Bd)) (F1:ZV P w K mg base CX0 2 Bd.pl "begin" ["self"] (Zn5 Ad Bd)) (F2:ZV P w K mg base CX0 4 Bd.pl "say" ["self","line"] (Zn8 K Ad Bd)) (F3:ZV P w K mg base CX0 4 Bd.pl "status" ["self"] (Zn6 Ad Bd)) (F4:ZV P w K mg base CX0 1 Bd.pl "state" ["self"] (Zn7 Ad Bd)) :
  Can P w K mg base CX0 12 "answer_of_play" ["play","call"] (Zoi Ad Bd):=by
 refine D.can Zoj (fun _ _ _ _ _ _ us hl=>match us,hl with|[_,_],_=>rfl) (fun vs H Q E h=>?_) (fun cdv A outer s H vs Q E hr h=>?_)
 ·obtain⟨p,c,a,raw,kc,rfl,_⟩:=h;rfl
 ·obtain⟨p,c,a,raw,kc,rfl,hP,hc,hraw,hne,k⟩:=h;refine⟨_,Ze (Zx (i:=2) Zoj.nd rfl (Or.inl rfl) (ZG ZO (pv 1) Zr (fun _ _=>rfl)))
   (Ze (Zy (ZC Z9 (pv 2) (Zu c0) (Zz _)) (Zh (Zm (Z8 (pv 0) CP.cl F0 hr Zs (Za (Zdk Zdm (pv 1) (Zb8 Zr) Zfx) Zb)))) ZD)
   (Ze (Zy (ZC Z9 (pv 2) (Zu c1) (Zz _)) (Zh (Zm (Zed (pv 0) CP.cl F1 hr Zs))) ZD)
   (Ze (Zy (ZC Z9 (pv 2) (Zu c2) (Zz _)) (Zh (Zm (Z8 (pv 0) CP.cl F2 hr Zs (Za (Zdk Zdm (pv 1) (Zb8 Zr) Zfx) Zb)))) ZD)
   (Ze (Zy (ZC Z9 (pv 2) (Zu c3) (Zz _)) (Zh (Zm (Zed (pv 0) CP.cl F3 hr Zs))) ZD)
   (Ze (Zy (ZC Z9 (pv 2) (Zu c4) (Zz _)) (Zh (Zm (Zed (pv 0) CP.cl F4 hr Zs))) ZD)
   (Zh Zj4)))))),?_⟩
  obtain⟨dx,tv,ln,hp,hH⟩:=id hP;have nom:∀{m:Str},(m==("tale":Str))=false->(m==("now":Str))=false->(ZR tv (.ref ln)).lookup m=none:=fun h1 h2=>Zfi _ _ h1 h2;have neI:∀{x y:Int},x≠y->¬(V.int x=V.int y):=fun h z=>h (V.int.inj z);cases hraw with
  |read bs hbs =>
   refine⟨_,rfl,c,_,_,_,rfl,rfl,SqL.of hc,ZF (j:=0) rfl,_,rfl,rfl,_,rfl,ifD rfl ?_⟩;refine⟨_,rfl,p,dx,_,rfl,hp,nom (by decide +kernel) (by decide +kernel),_,rfl,_,rfl,c,_,rfl,SqL.of hc,fun q hq=>?_⟩;have s1:∀o,Zc H (upd H q o):=fun o=>Zq hq;refine⟨p,q,a,bs,rfl,hP.kept (s1 _),SqL.of ?_,hbs,k.mono (s1 _)⟩;rw[Zd,List.map_cons,List.map_cons,ZgO,ZcA]
  |start =>
   refine⟨_,rfl,c,_,_,_,rfl,rfl,SqL.of hc,ZF (j:=0) rfl,_,rfl,rfl,_,rfl,ifN (neI (by decide)) ⟨_,rfl,rfl,_,rfl,ifD rfl ?_⟩⟩;refine⟨_,rfl,p,dx,_,rfl,hp,nom (by decide +kernel) (by decide +kernel),?_⟩;cases a with
   |none=>exact absurd rfl hne
   |some x=>exact⟨p,x,rfl,hP,k⟩
  |say bs hbs =>
   refine⟨_,rfl,c,_,_,_,rfl,rfl,SqL.of hc,ZF (j:=0) rfl,_,rfl,rfl,_,rfl,ifN (neI (by decide)) ⟨_,rfl,rfl,_,rfl,ifN (neI (by decide)) ⟨_,rfl,rfl,_,rfl,ifD rfl ?_⟩⟩⟩;refine⟨_,rfl,p,dx,_,rfl,hp,nom (by decide +kernel) (by decide +kernel),_,rfl,_,rfl,c,_,rfl,SqL.of hc,fun q hq=>?_⟩;have s1:∀o,Zc H (upd H q o):=fun o=>Zq hq;match a,hne,hP,k with
   |some ⟨t,some s⟩,_,hP,k =>
    refine⟨p,q,t,s,bs,rfl,hP.kept (s1 _),SqL.of ?_,hbs,k.mono (s1 _)⟩;rw[Zd,List.map_cons,List.map_cons,ZgO,ZcA]
   |some ⟨t,none⟩,hne,_,_=>exact absurd rfl hne
   |none,hne,_,_=>exact absurd rfl hne
  |status =>
   refine⟨_,rfl,c,_,_,_,rfl,rfl,SqL.of hc,ZF (j:=0) rfl,_,rfl,rfl,_,rfl,ifN (neI (by decide)) ⟨_,rfl,rfl,_,rfl,ifN (neI (by decide)) ⟨_,rfl,rfl,_,rfl,ifN (neI (by decide)) ⟨_,rfl,rfl,_,rfl,ifD rfl ?_⟩⟩⟩⟩;refine⟨_,rfl,p,dx,_,rfl,hp,nom (by decide +kernel) (by decide +kernel),?_⟩;match a,hne,hP,k with
   |some ⟨t,some s⟩,_,hP,k=>exact⟨p,t,s,rfl,hP,k⟩
   |some ⟨t,none⟩,hne,_,_=>exact absurd rfl hne
   |none,hne,_,_=>exact absurd rfl hne
  |state =>
   refine⟨_,rfl,c,_,_,_,rfl,rfl,SqL.of hc,ZF (j:=0) rfl,_,rfl,rfl,_,rfl,ifN (neI (by decide)) ⟨_,rfl,rfl,_,rfl,ifN (neI (by decide)) ⟨_,rfl,rfl,_,rfl,ifN (neI (by decide)) ⟨_,rfl,rfl,_,rfl,ifN (neI (by decide)) ⟨_,rfl,rfl,_,rfl,ifD rfl ?_⟩⟩⟩⟩⟩;refine⟨_,rfl,p,dx,_,rfl,hp,nom (by decide +kernel) (by decide +kernel),?_⟩;match a,hne,hP,k with
   |some ⟨t,some s⟩,_,hP,k=>exact⟨p,t,s,rfl,hP,k⟩
   |some ⟨t,none⟩,hne,_,_=>exact absurd rfl hne
   |none,hne,_,_=>exact absurd rfl hne
def Zok(Bd:Bds):Sp:=fun vs H Q _=>∃(p c:Addr)(a:Option Kgf2.Abs)(raw:List Int)(kc:Kgf2.Call),vs=[.ref p,.ref c]/\Za4 Bd H p a/\H c=some (.lst (raw.map V.int))/\ZcF raw kc/\Kgf2.acts a kc≠none/\Zb2 Bd H p a kc Q
theorem Zol:Zo ["outlook","call","number"] ["outlook","call"] (Zi ZjY):=⟨rfl,rfl,rfl,by decide +kernel,rfl,by decide +kernel,by decide +kernel⟩
theorem ZvK(D:Zj K mg "answer_of_outlook" ZjY f)(CO:Zv K Bd.ou outF)(c10:GI mg "READ_AHEAD" 10)(c11:GI mg "BEST" 11)(c12:GI mg "LOOK" 12)(c13:GI mg "STUCK" 13)
  (F0:ZV P w K mg base CX0 11 Bd.ou "read" ["self","text"] (Zob K Bd)) (F1:ZV P w K mg base CX0 3 Bd.ou "best" ["self","numbers"] (Zod K Bd)) (F2:ZV P w K mg base CX0 1 Bd.ou "look" ["self"] (Zoe Bd)) (F3:ZV P w K mg base CX0 3 Bd.ou "stuck" ["self","which"] (Zog Bd)) :
  Can P w K mg base CX0 12 "answer_of_outlook" ["outlook","call"] (Zok Bd):=by
 refine D.can Zol (fun _ _ _ _ _ _ us hl=>match us,hl with|[_,_],_=>rfl) (fun vs H Q E h=>?_) (fun cdv A outer s H vs Q E hr h=>?_)
 ·obtain⟨p,c,a,raw,kc,rfl,_⟩:=h;rfl
 ·obtain⟨p,c,a,raw,kc,rfl,hP,hc,hraw,hne,k⟩:=h;refine⟨_,Ze (Zx (i:=2) Zol.nd rfl (Or.inl rfl) (ZG ZO (pv 1) Zr (fun _ _=>rfl)))
   (Ze (Zy (ZC Z9 (pv 2) (Zu c10) (Zz _)) (Zh (Zm (Z8 (pv 0) CO.cl F0 hr Zs (Za (Zdk Zdm (pv 1) (Zb8 Zr) Zfx) Zb)))) ZD)
   (Ze (Zy (ZC Z9 (pv 2) (Zu c11) (Zz _)) (Zh (Zm (Z8 (pv 0) CO.cl F1 hr Zs (Za (Zdk Zdm (pv 1) (Zb8 Zr) Zfx) Zb)))) ZD)
   (Ze (Zy (ZC Z9 (pv 2) (Zu c12) (Zz _)) (Zh (Zm (Zed (pv 0) CO.cl F2 hr Zs))) ZD)
   (Ze (Zy (ZC Z9 (pv 2) (Zu c13) (Zz _)) (Zh (Zm (Z8 (pv 0) CO.cl F3 hr Zs (Za (ZG ZO (pv 1) Zr (fun _ _=>rfl)) Zb)))) ZD)
   (Zh Zj4))))),?_⟩
  obtain⟨dx,rv,lt,hp,hH⟩:=id hP;have nom:∀{m:Str},(m==("reach":Str))=false->(m==("trapped":Str))=false->(Zah rv (.ref lt)).lookup m=none:=fun h1 h2=>ZdL _ _ h1 h2;have neI:∀{x y:Int},x≠y->¬(V.int x=V.int y):=fun h z=>h (V.int.inj z);cases hraw with
  |read bs hbs =>
   refine⟨_,rfl,c,_,_,_,rfl,rfl,SqL.of hc,ZF (j:=0) rfl,_,rfl,rfl,_,rfl,ifD rfl ?_⟩;refine⟨_,rfl,p,dx,_,rfl,hp,nom (by decide +kernel) (by decide +kernel),_,rfl,_,rfl,c,_,rfl,SqL.of hc,fun q hq=>?_⟩;have s1:∀o,Zc H (upd H q o):=fun o=>Zq hq;refine⟨p,q,a,bs,rfl,hP.kept (s1 _),SqL.of ?_,hbs,k.mono (s1 _)⟩;rw[Zd,List.map_cons,List.map_cons,ZgO,ZcA]
  |best ns h24 =>
   refine⟨_,rfl,c,_,_,_,rfl,rfl,SqL.of hc,ZF (j:=0) rfl,_,rfl,rfl,_,rfl,ifN (neI (by decide)) ⟨_,rfl,rfl,_,rfl,ifD rfl ?_⟩⟩;refine⟨_,rfl,p,dx,_,rfl,hp,nom (by decide +kernel) (by decide +kernel),_,rfl,_,rfl,c,_,rfl,SqL.of hc,fun q hq=>?_⟩;have s1:∀o,Zc H (upd H q o):=fun o=>Zq hq;cases a with
   |none=>exact absurd rfl hne
   |some x =>
    refine⟨p,q,x,ns,rfl,hP.kept (s1 _),SqL.of ?_,h24,k.mono (s1 _)⟩;rw[Zd,List.map_cons,List.map_cons,ZgO,ZcA]
  |look =>
   refine⟨_,rfl,c,_,_,_,rfl,rfl,SqL.of hc,ZF (j:=0) rfl,_,rfl,rfl,_,rfl,ifN (neI (by decide)) ⟨_,rfl,rfl,_,rfl,ifN (neI (by decide)) ⟨_,rfl,rfl,_,rfl,ifD rfl ?_⟩⟩⟩;refine⟨_,rfl,p,dx,_,rfl,hp,nom (by decide +kernel) (by decide +kernel),?_⟩;cases a with
   |none=>exact absurd rfl hne
   |some x=>exact⟨p,x,rfl,hP,k⟩
  |stuck n =>
   refine⟨_,rfl,c,_,_,_,rfl,rfl,SqL.of hc,ZF (j:=0) rfl,_,rfl,rfl,_,rfl,ifN (neI (by decide)) ⟨_,rfl,rfl,_,rfl,ifN (neI (by decide)) ⟨_,rfl,rfl,_,rfl,ifN (neI (by decide)) ⟨_,rfl,rfl,_,rfl,ifD rfl ?_⟩⟩⟩⟩;refine⟨_,rfl,p,dx,_,rfl,hp,nom (by decide +kernel) (by decide +kernel),_,rfl,c,_,_,_,rfl,rfl,SqL.of hc,ZF (j:=1) rfl,?_⟩;cases a with
   |none=>exact absurd rfl hne
   |some x=>exact⟨p,n,x,rfl,hP,k⟩
end
theorem ZgP{x:List Int}(h:x.all (fun(z:Int)=>KgfNeutral.P1.natural z 8)=true):x=cI (KgfNeutral.P1.natsOf x):=by
 unfold cI KgfNeutral.P1.natsOf;rw[List.map_map];have:∀z∈x,((Int.toNat z:Nat):Int)=z:=fun z hz=>by
  have:=List.all_eq_true.mp h z hz;unfold KgfNeutral.P1.natural at this;rw[Bool.and_eq_true,decide_eq_true_eq,decide_eq_true_eq] at this;omega
 conv=>lhs;rw[←List.map_id x]
 exact List.map_congr_left fun z hz=>(this z hz).symm
theorem Zda(x:List Int):(KgfNeutral.P1.natsOf x).length=x.length:=List.length_map _
theorem Zfn{a1:Option Kgf1.Abs}{a2:Option Kgf2.Abs}{c:List (List Int)}{kc:Kgf1.Call}(hp:KgfNeutral.place c < 10)(hc:KgfNeutral.P1.callOf (KgfNeutral.down 0 c)=some kc)(hmay:(KgfNeutral.step (a1,a2) c).2≠[]):∃a1' ans,Kgf1.acts a1 kc=some (a1',ans)/\KgfNeutral.step (a1,a2) c=((a1',a2),ans.value::KgfNeutral.P1.ints ans.out):=by
 have e:KgfNeutral.step (a1,a2) c=(((KgfNeutral.P1.step a1 (KgfNeutral.down 0 c)).1,a2),(KgfNeutral.P1.step a1 (KgfNeutral.down 0 c)).2):=by
  unfold KgfNeutral.step;rw[if_pos hp]
 rw[e] at hmay ⊢;unfold KgfNeutral.P1.step at hmay ⊢;rw[hc] at hmay ⊢;cases h:Kgf1.acts a1 kc with
 |none =>
  rw[show(some kc).bind (Kgf1.acts a1)=Kgf1.acts a1 kc from rfl,h] at hmay;exact absurd rfl hmay
 |some y =>
  refine⟨y.1,y.2,rfl,?_⟩;rw[show(some kc).bind (Kgf1.acts a1)=Kgf1.acts a1 kc from rfl,h]
theorem ZgQ{a1:Option Kgf1.Abs}{a2:Option Kgf2.Abs}{c:List (List Int)}{kc:Kgf2.Call}(hp:¬KgfNeutral.place c < 10)(hp2:10<=KgfNeutral.place c/\KgfNeutral.place c < 20)(hc:KgfNeutral.P2.callOf (KgfNeutral.down 10 c)=some kc)(hmay:(KgfNeutral.step (a1,a2) c).2≠[]):∃a2' ans,Kgf2.acts a2 kc=some (a2',ans)/\KgfNeutral.step (a1,a2) c=((a1,a2'),ans.value::KgfNeutral.P2.ints ans.out):=by
 have e:KgfNeutral.step (a1,a2) c=((a1,(KgfNeutral.P2.step a2 (KgfNeutral.down 10 c)).1),(KgfNeutral.P2.step a2 (KgfNeutral.down 10 c)).2):=by
  unfold KgfNeutral.step;rw[if_neg hp,if_pos hp2]
 rw[e] at hmay ⊢;unfold KgfNeutral.P2.step at hmay ⊢;rw[hc] at hmay ⊢;cases h:Kgf2.acts a2 kc with
 |none =>
  rw[show(some kc).bind (Kgf2.acts a2)=Kgf2.acts a2 kc from rfl,h] at hmay;exact absurd rfl hmay
 |some y =>
  refine⟨y.1,y.2,rfl,?_⟩;rw[show(some kc).bind (Kgf2.acts a2)=Kgf2.acts a2 kc from rfl,h]
theorem ZvL{a1:Option Kgf1.Abs}{a2:Option Kgf2.Abs}{d t:List Int}{c:List (List Int)}(hC:Tl.Zci d c t)(hask:KgfNeutral.asked1 c=true)(hmay:(KgfNeutral.step (a1,a2) c).2≠[])(hl:d.length<=30000) :
  ∃(raw:List Int)(p:Int)(r:List Int),d=raw++t/\raw=p::r /\
   ((p < 10/\∃kc a1' ans,ZcE raw kc/\Kgf1.acts a1 kc=some (a1',ans)/\KgfNeutral.step (a1,a2) c=((a1',a2),ans.value::KgfNeutral.P1.ints ans.out)) \/
    (¬p < 10/\∃kc a2' ans,ZcF raw kc/\Kgf2.acts a2 kc=some (a2',ans)/\KgfNeutral.step (a1,a2) c=((a1,a2'),ans.value::KgfNeutral.P2.ints ans.out))):=by
 cases hC with
 |Zh0 p x t hp =>
  refine⟨p::(x.length:Int)::x,p,_,rfl,rfl,?_⟩;have hxl:x.length<=30000:=by
   rw[List.length_cons,List.length_cons,List.length_append] at hl;omega
  rcases hp with rfl|rfl|rfl|rfl
  ·have hb:x=cI (KgfNeutral.P1.natsOf x):=ZgP hask;refine .inl ⟨by decide,?_⟩;obtain⟨a1',ans,h1,h2⟩:=Zfn (kc:=.read x.length (KgfNeutral.P1.natsOf x)) (by show(0:Int) < 10;decide) rfl hmay;refine⟨_,a1',ans,?_,h1,h2⟩;have:=ZcE.read (KgfNeutral.P1.natsOf x) (by rw[Zda];exact hxl);rw[Zda,←hb] at this;exact this
  ·have hb:x=cI (KgfNeutral.P1.natsOf x):=ZgP hask;refine .inl ⟨by decide,?_⟩;obtain⟨a1',ans,h1,h2⟩:=Zfn (kc:=.say x.length (KgfNeutral.P1.natsOf x)) (by show(2:Int) < 10;decide) rfl hmay;refine⟨_,a1',ans,?_,h1,h2⟩;have:=ZcE.say (KgfNeutral.P1.natsOf x) (by rw[Zda];exact hxl);rw[Zda,←hb] at this;exact this
  ·have hb:x=cI (KgfNeutral.P1.natsOf x):=ZgP hask;refine .inr ⟨by decide,?_⟩;obtain⟨a2',ans,h1,h2⟩:=ZgQ (kc:=.read x.length (KgfNeutral.P2.natsOf x)) (by show¬(10:Int) < 10;decide) (by show(10:Int)<=10/\(10:Int) < 20;decide) rfl hmay;refine⟨_,a2',ans,?_,h1,h2⟩;have:=ZcF.read (KgfNeutral.P1.natsOf x) (by rw[Zda];exact hxl);rw[Zda,←hb] at this;exact this
  ·have hask':(x.all (fun(z:Int)=>KgfNeutral.P1.natural z 8)&&decide (x.length=24))=true:=hask;rw[Bool.and_eq_true,decide_eq_true_eq] at hask';have hb:x=cI (KgfNeutral.P1.natsOf x):=ZgP hask'.1;refine .inr ⟨by decide,?_⟩;obtain⟨a2',ans,h1,h2⟩:=ZgQ (kc:=.best (KgfNeutral.P2.natsOf x)) (by show¬(11:Int) < 10;decide) (by show(10:Int)<=11/\(11:Int) < 20;decide) rfl hmay;refine⟨_,a2',ans,?_,h1,h2⟩;have:=ZcF.best (KgfNeutral.P1.natsOf x) (by rw[Zda];exact hask'.2);rw[Zda,←hb] at this;exact this
 |bare p t hp =>
  refine⟨[p],p,[],rfl,rfl,?_⟩;rcases hp with rfl|rfl|rfl|rfl
  ·obtain⟨a1',ans,h1,h2⟩:=Zfn (kc:=.start) (by show(1:Int) < 10;decide) rfl hmay;exact .inl ⟨by decide,_,a1',ans,.start,h1,h2⟩
  ·obtain⟨a1',ans,h1,h2⟩:=Zfn (kc:=.status) (by show(3:Int) < 10;decide) rfl hmay;exact .inl ⟨by decide,_,a1',ans,.status,h1,h2⟩
  ·obtain⟨a1',ans,h1,h2⟩:=Zfn (kc:=.state) (by show(4:Int) < 10;decide) rfl hmay;exact .inl ⟨by decide,_,a1',ans,.state,h1,h2⟩
  ·obtain⟨a2',ans,h1,h2⟩:=ZgQ (kc:=.look) (by show¬(12:Int) < 10;decide) (by show(10:Int)<=12/\(12:Int) < 20;decide) rfl hmay;exact .inr ⟨by decide,_,a2',ans,.look,h1,h2⟩
 |num k t =>
  refine⟨[13,k],13,[k],rfl,rfl,?_⟩;have hk:KgfNeutral.P2.natural k 32=true:=hask;unfold KgfNeutral.P2.natural at hk;rw[Bool.and_eq_true,decide_eq_true_eq,decide_eq_true_eq] at hk;have ek:k=((k.toNat:Nat):Int):=by omega
  obtain⟨a2',ans,h1,h2⟩:=ZgQ (kc:=.stuck k.toNat) (by show¬(13:Int) < 10;decide) (by show(10:Int)<=13/\(13:Int) < 20;decide) rfl hmay;refine .inr ⟨by decide,_,a2',ans,?_,h1,h2⟩;have:=ZcF.stuck k.toNat;rw[←ek] at this;exact this
section
variable{F:Hp}{g:Addr}{o:Obj}{u:HO}
theorem Zak{a:Addr}{v:HO}(hg:F g=some (.frz o u))(h:F a=some v)(nf:∀o u,v≠.frz o u):Tp.hide g F a=some v:=by
 rw[hide_ne fun z=>?_]
 ·exact h
 ·rw[z,hg] at h;exact nf _ _ (Option.some.inj h).symm
theorem Zaq.Zak{v:V}{c:Kgf1.Cond}(hg:F g=some (.frz o u))(h:Zaq F v c):Zaq (Tp.hide g F) v c:=by
 obtain⟨l,refs,e,h1,h2⟩:=h;refine⟨l,refs,e,Tp.Zak hg h1 (by intro _ _ z;cases z),Paired.ZP h2 fun _ _ z=>?_⟩;obtain⟨q,e,h⟩:=z;exact⟨q,e,Tp.Zak hg h (by intro _ _ z;cases z)⟩
theorem Zbu.Zak{v:V}{c:Kgf1.Cond}(hg:F g=some (.frz o u))(h:Zbu F v c):Zbu (Tp.hide g F) v c:=by
 obtain⟨l,refs,e,h1,h2⟩:=h;refine⟨l,refs,e,Tp.Zak hg h1 (by intro _ _ z;cases z),Paired.ZP h2 fun _ _ z=>?_⟩;obtain⟨i,q,e,h⟩:=z;exact⟨i,q,e,Tp.Zak hg h (by intro _ _ z;cases z)⟩
theorem ZaN.Zak{Ad:Ads}{tl:Addr}{t:Kgf1.Tale}(hg:F g=some (.frz o u))(h:ZaN Ad F tl t):ZaN Ad (Tp.hide g F) tl t:=by
 obtain⟨tdx,n,c,w,s,o',l,crefs,wrefs,srefs,orefs,lrefs,h1,h2,h3,h4,h5,h6,h7,h8,h9,h10,h11⟩:=h.at_.ex;obtain⟨tdx',n',c',w',s',o'',l',crefs',g1,g2,g3⟩:=h.ch;have hl:∀{a:Addr}{xs:List V},F a=some (.lst xs)->Tp.hide g F a=some (.lst xs):=fun h=>Tp.Zak hg h (by intro _ _ z;cases z);have hi:∀{a C dx:Addr}{fs:List (Str×V)},F a=some (.ins C dx fs)->Tp.hide g F a=some (.ins C dx fs):=fun h=>Tp.Zak hg h (by intro _ _ z;cases z);refine⟨⟨tdx,n,c,w,s,o',l,crefs,wrefs,srefs,orefs,lrefs,hi h1,hl h2,h3,hl h4,Paired.ZP h5 fun _ _ z=>?_,hl h6,Paired.ZP h7 fun _ _ z=>?_,hl h8,Paired.ZP h9 fun _ _ z=>z.Zak hg,hl h10,Paired.ZP h11 fun _ _ z=>z.Zak hg⟩,tdx',n',c',w',s',o'',l',crefs',hi g1,hl g2,Paired.ZP g3 fun _ _ z=>?_⟩
 ·obtain⟨q,dq,lt,ll,vc,vd,e,z1,z2,z3,z4,z5⟩:=z;exact⟨q,dq,lt,ll,vc,vd,e,hi z1,hl z2,z3.Zak hg,z4.Zak hg,hl z5⟩
 ·obtain⟨q,dq,ll,vc,e,z1,z2,z3⟩:=z;exact⟨q,dq,ll,vc,e,hi z1,hl z2,z3.Zak hg⟩
 ·obtain⟨d,e,z1⟩:=z;exact⟨d,e,Tp.Zak hg z1 (by intro _ _ z;cases z)⟩
theorem Zbj.Zak{Bd:Bds}{r:Addr}{t:Kgf1.Tale}{l:List Kgf1.St}(hg:F g=some (.frz o u))(h:Zbj Bd F r t l):Zbj Bd (Tp.hide g F) r t l:=by
 obtain⟨X,e,h1,h2,h3,h4,h5,h6⟩:=h.ex;obtain⟨dy,lb,lo,ll,lm,p1,⟨brefs,b1,b2⟩,p3,p4,mrefs,m1,m2,m3⟩:=h2;have hl:∀{a:Addr}{xs:List V},F a=some (.lst xs)->Tp.hide g F a=some (.lst xs):=fun h=>Tp.Zak hg h (by intro _ _ z;cases z);have hi:∀{a C dx:Addr}{fs:List (Str×V)},F a=some (.ins C dx fs)->Tp.hide g F a=some (.ins C dx fs):=fun h=>Tp.Zak hg h (by intro _ _ z;cases z);refine⟨X,e,hi h1,⟨dy,lb,lo,ll,lm,hi p1,⟨brefs,hl b1,Paired.ZP b2 fun _ _ z=>?_⟩,hl p3,hl p4,mrefs,hl m1,m2,fun k x hx=>?_⟩,hl h3,Tp.Zak hg h4 (by intro _ _ z;cases z),hl h5,hl h6⟩
 ·obtain⟨l,e,z⟩:=z;exact⟨l,e,hl z⟩
 ·obtain⟨q,e1,e2⟩:=m3 k x hx;exact⟨q,e1,Tp.Zak hg e2 (by intro _ _ z;cases z)⟩
theorem Zom(a b:Addr)(F:Hp):Tp.hide a (Tp.hide b F)=Tp.hide b (Tp.hide a F):=by
 funext c;unfold hide;by_cases h1:c=a<;>by_cases h2:c=b<;>simp[h1,h2]
theorem Za3.Zak{Ad:Ads}{Bd:Bds}{p:Addr}{a:Option Kgf1.Abs}(hg:F g=some (.frz o u))(h:Za3 Ad Bd F p a):Za3 Ad Bd (Tp.hide g F) p a:=by
 obtain⟨dx,tv,ln,h1,h2⟩:=h;have hgp:g≠p:=Z6 hg h1 (by intro z;cases z);have hg':Tp.hide p F g=some (.frz o u):=by rw[hide_ne hgp];exact hg
 refine⟨dx,tv,ln,Tp.Zak hg h1 (by intro _ _ z;cases z),?_⟩;rw[Zom];cases a with
 |none=>exact h2
 |some x =>
  obtain⟨tl,st,e,h3,h4,h5,h6⟩:=h2;exact⟨tl,st,e,h3.Zak hg',h4,Tp.Zak hg' h5 (by intro _ _ z;cases z),h6⟩
theorem Za4.Zak{Bd:Bds}{p:Addr}{a:Option Kgf2.Abs}(hg:F g=some (.frz o u))(h:Za4 Bd F p a):Za4 Bd (Tp.hide g F) p a:=by
 obtain⟨dx,tv,ln,h1,h2⟩:=h;have hgp:g≠p:=Z6 hg h1 (by intro z;cases z);have hg':Tp.hide p F g=some (.frz o u):=by rw[hide_ne hgp];exact hg
 refine⟨dx,tv,ln,Tp.Zak hg h1 (by intro _ _ z;cases z),?_⟩;rw[Zom];cases a with
 |none=>exact h2
 |some x =>
  obtain⟨r,e,h3,h4,h5⟩:=h2;exact⟨r,e,h3.Zak hg',h4,Tp.Zak hg' h5 (by intro _ _ z;cases z)⟩
end
section
variable{Ad:Ads}{Bd:Bds}{H H':Hp}{p q:Addr}
theorem Za4.frame{a:Option Kgf2.Abs}{dx:Addr}{x y:V}(h:Za4 Bd H p a)(hq:H q=some (.ins Bd.pl dx (ZR x y)))(hpq:p≠q)(fr:∀b u,b≠q->H b=some u->H' b=some u):Za4 Bd H' p a:=by
 obtain⟨dy,rv,lt,h1,h2⟩:=h;have hq':Tp.hide p H q=some (.ins Bd.pl dx (ZR x y)):=by rw[hide_ne hpq.symm];exact hq
 have sm:Zc (Tp.hide q (Tp.hide p H)) (Tp.hide p H'):=fun b u e=>by
  have b1:b≠q:=fun z=>by rw[z,hide_self] at e;cases e
  rw[hide_ne b1] at e;have b2:b≠p:=fun z=>by rw[z,hide_self] at e;cases e
  rw[hide_ne b2] at e;rw[hide_ne b2];exact fr b u b1 e
 refine⟨dy,rv,lt,fr p _ hpq h1,?_⟩;cases a with
 |none=>exact h2
 |some z =>
  obtain⟨r,e,h3,h4,h5⟩:=h2;exact⟨r,e,(h3.hide hq' (Zfi _ _ (by decide +kernel) (by decide +kernel)) (Zfi _ _ (by decide +kernel) (by decide +kernel))).same sm,h4,sm _ _ (Zag hq' h5)⟩
theorem Za3.frame{a:Option Kgf1.Abs}{dx:Addr}{x y:V}(h:Za3 Ad Bd H p a)(hq:H q=some (.ins Bd.ou dx (Zah x y)))(hpq:p≠q)(fr:∀b u,b≠q->H b=some u->H' b=some u):Za3 Ad Bd H' p a:=by
 obtain⟨dy,tv,ln,h1,h2⟩:=h;have hq':Tp.hide p H q=some (.ins Bd.ou dx (Zah x y)):=by rw[hide_ne hpq.symm];exact hq
 have sm:Zc (Tp.hide q (Tp.hide p H)) (Tp.hide p H'):=fun b u e=>by
  have b1:b≠q:=fun z=>by rw[z,hide_self] at e;cases e
  rw[hide_ne b1] at e;have b2:b≠p:=fun z=>by rw[z,hide_self] at e;cases e
  rw[hide_ne b2] at e;rw[hide_ne b2];exact fr b u b1 e
 refine⟨dy,tv,ln,fr p _ hpq h1,?_⟩;cases a with
 |none=>exact h2
 |some z =>
  obtain⟨tl,st,e,h3,h4,h5,h6⟩:=h2;exact⟨tl,st,e,(h3.hide hq' (ZdL _ _ (by decide +kernel) (by decide +kernel)) (ZdL _ _ (by decide +kernel) (by decide +kernel))).same sm,h4,sm _ _ (Zag hq' h5),h6⟩
end
abbrev ZcG:Stmt:=top 117
theorem ZvM{ns:List Int}{i e:Nat}(hi:i<=e)(he:e<=ns.length):Zba (ns.map V.int) (some (i:Int)) (some (e:Int))=((ns.drop i).take (e - i)).map V.int:=by
 unfold Zba;rw[HT.ZdW,HT.ZdW,List.length_map,Nat.min_eq_left (by omega:i<=ns.length),Nat.min_eq_left he,←List.map_drop,←List.map_take]
theorem ZvN(a:Kgf1.Ans):ZcC a=(a.value::KgfNeutral.P1.ints a.out).map V.int:=by
 unfold ZcC KgfNeutral.P1.ints;rw[List.map_cons,List.map_map];rfl
theorem ZvO(a:Kgf2.Ans):Zex a=(a.value::KgfNeutral.P2.ints a.out).map V.int:=by
 unfold Zex KgfNeutral.P2.ints;rw[List.map_cons,List.map_map];rfl
theorem Zj0(g:Addr)(F:Hp)(o:HO):hide g (upd F g o)=hide g F:=by
 funext b;by_cases h:b=g
 ·rw[h,hide_self,hide_self]
 ·rw[hide_ne h,hide_ne h,Zf h]
structure Zcm(Ad:Ads)(Bd:Bds)(H0 H':Hp)(p o lg:Addr)(a1:Option Kgf1.Abs)(a2:Option Kgf2.Abs)(out:List Int):Prop where
 sm:Zc H0 (hide lg H')
 pl:Za3 Ad Bd (hide lg H') p a1
 ou:Za4 Bd (hide lg H') o a2
 lg:H' lg=some (.lst (out.map V.int))
 fp:H0 p=none
 fo:H0 o=none
 ne:p≠o
section
variable{Ad:Ads}{Bd:Bds}{H0 H' H2 H4:Hp}{p o lg:Addr}{a1:Option Kgf1.Abs}{a2:Option Kgf2.Abs}{out:List Int}{od:Obj}{u:HO}
theorem Zfo{g b:Addr}{F:Hp}{u:HO}(h:hide g F b=some u):b≠g/\F b=some u:=by
 have hb:b≠g:=fun z=>by rw[z,hide_self] at h;cases h
 rw[hide_ne hb] at h;exact⟨hb,h⟩
theorem Zcm.to(A:Zcm Ad Bd H0 H' p o lg a1 a2 out)(s:Zc H' H2):Zc (hide lg H') (upd H2 lg (.frz od u)):=fun b v e=>by
 obtain⟨hb,e⟩:=Zfo e;rw[Zf hb];exact s _ _ e
theorem Zcm.ZvP{a1':Option Kgf1.Abs}(A:Zcm Ad Bd H0 H' p o lg a1 a2 out)(s:Zc H' H2)(h4:Za3 Ad Bd H4 p a1')(fr:∀b v,b≠p->upd H2 lg (.frz od u) b=some v->H4 b=some v) :
  H4 lg=some (.frz od u)/\∀out':List Int,Zcm Ad Bd H0 (upd H4 lg (.lst (out'.map V.int))) p o lg a1' a2 out':=by
 obtain⟨dx,x,y,hp,_⟩:=id A.pl;have hl:lg≠p:=(Zfo hp).1.symm;have e4:H4 lg=some (.frz od u):=fr lg _ hl Zd;have fr':∀b v,b≠p->hide lg H' b=some v->hide lg H4 b=some v:=fun b v hb e=>by
  have e':=A.to (od:=od) (u:=u) s b v e;rw[hide_ne (Zfo e).1];exact fr b v hb e'
 refine⟨e4,fun out'=>⟨?_,?_,?_,Zd,A.fp,A.fo,A.ne⟩⟩<;>rw[Zj0]
 ·exact fun b v e=>fr' b v (Zk e A.fp) (A.sm b v e)
 ·exact h4.Zak e4
 ·exact A.ou.frame hp A.ne.symm fr'
theorem Zcm.ZvQ{a2':Option Kgf2.Abs}(A:Zcm Ad Bd H0 H' p o lg a1 a2 out)(s:Zc H' H2)(h4:Za4 Bd H4 o a2')(fr:∀b v,b≠o->upd H2 lg (.frz od u) b=some v->H4 b=some v) :
  H4 lg=some (.frz od u)/\∀out':List Int,Zcm Ad Bd H0 (upd H4 lg (.lst (out'.map V.int))) p o lg a1 a2' out':=by
 obtain⟨dx,x,y,hp,_⟩:=id A.ou;have hl:lg≠o:=(Zfo hp).1.symm;have e4:H4 lg=some (.frz od u):=fr lg _ hl Zd;have fr':∀b v,b≠o->hide lg H' b=some v->hide lg H4 b=some v:=fun b v hb e=>by
  have e':=A.to (od:=od) (u:=u) s b v e;rw[hide_ne (Zfo e).1];exact fr b v hb e'
 refine⟨e4,fun out'=>⟨?_,?_,?_,Zd,A.fp,A.fo,A.ne⟩⟩<;>rw[Zj0]
 ·exact fun b v e=>fr' b v (Zk e A.fo) (A.sm b v e)
 ·exact A.pl.frame hp A.ne fr'
 ·exact h4.Zak e4
end
section
theorem made{H:Hp}{x dx ln C:Addr}{fs:List (Str×V)}{o:HO}(hx:H x=none)(hdx:H dx=none)(hln:upd (upd H dx (.own x)) x (.ins C dx []) ln=none) :
  Zc H (upd (upd (upd (upd H dx (.own x)) x (.ins C dx [])) ln o) x (.ins C dx fs)):=fun b u e=>by
 obtain⟨_,h1⟩:=Z3 hln;obtain⟨_,h2⟩:=Z3 h1;rw[Zf (Zk e hx),Zf (Zk e h2),Zf (Zk e hx),Zf (Zk e hdx)];exact e
theorem Zon(a:List Int)(l:List (List Int)):PyFlat.told (a::l)=((a.length:Int)::a)++PyFlat.told l:=rfl
def ZgR(K:PySem.W.Frag):Sp:=fun vs H Q _=>∃(a:Addr)(ns:List Int),vs=[.ref a]/\SqL K H a (ns.map V.int)/\PyKgf.answers_asked ns=true/\ns.length<=30000/\∀q H',H' q=some (.lst ((PyKgf.answers ns).map V.int))->Q (.ref q) H'
theorem ZcH:Zo ["calls","play","outlook","given","place","end","call","told"] ["calls"] (Zi ZcG):=⟨rfl,rfl,rfl,by decide +kernel,rfl,by decide +kernel,by decide +kernel⟩
theorem ZvR{fd:FuncData}(D:Fun K "answers" "answers" ZcG f fd)(hlen:mg "len"=none)(c10:GI mg "READ_AHEAD" 10)
  (F1:ZaS P w K mg base CX0 1 "Play" Bd.pl ["self"] (Zn0 Bd)) (F2:ZaS P w K mg base CX0 1 "Outlook" Bd.ou ["self"] (Zoa Bd)) (F3:Can P w K mg base CX0 1 "end_of_call" ["calls","place"] (Zoh K))
  (F4:Can P w K mg base CX0 12 "answer_of_play" ["play","call"] (Zoi Ad Bd)) (F5:Can P w K mg base CX0 12 "answer_of_outlook" ["outlook","call"] (Zok Bd)) :
  ZaH P w K mg base CX0 13 f fd ["calls"] (ZgR K):=by
 refine D.ok ZcH (fun vs H Q E h=>?_) (fun cdv A outer s H vs Q E hr h=>?_)
 ·obtain⟨a,ns,rfl,_⟩:=h;rfl
 ·obtain⟨a,ns,rfl,hL,hask,hbig,k⟩:=h;have big:sizeLine=16777216:=by decide
  refine⟨_,Ze (Zx (i:=1) ZcH.nd rfl (Or.inl rfl) (Zh1 F1 hr Zs))
   (Ze (Zx (i:=2) ZcH.nd rfl (Or.inl rfl) (Zh1 F2 hr Zs))
   (Ze (Zx (i:=3) ZcH.nd rfl (Or.inl rfl) (ZQ Zb))
   (Ze (Zx (i:=4) ZcH.nd rfl (Or.inl rfl) Zr)
   (Ze (ZbB PassesOwn.never (ZC Zcq (pv 4) (ZN Z0 (by rfl) hlen PySem.boot_len (Za (pv 0) Zb)) (Zz _))
    (Ze (Zx (i:=5) ZcH.nd rfl (Or.inl rfl) (Zp F3 hr Zs (Za (pv 0) (Za (pv 4) Zb))))
    (Ze (Zx (i:=6) ZcH.nd rfl (Or.inl rfl) (Zdk Zdm (pv 0) (Zb8 (pv 4)) (Zb8 (pv 5))))
    (Ze (ZqE (Zx (i:=7) ZcH.nd rfl (Or.inl rfl) (ZdS (ZC Zcq (ZG ZO (pv 6) Zr (fun _ _=>rfl)) (Zu c10) (Zz _)) (Zp F4 hr Zs (Za (pv 1) (Za (pv 6) Zb))) (Zp F5 hr Zs (Za (pv 2) (Za (pv 6) Zb))))))
    (Ze (ZK (Zax PySem.F.plainAttrs_list PySem.F.slot_list_append PySem.F.type_list_append ZaQ (pv 3) (Za (ZN Z0 (by rfl) hlen PySem.boot_len (Za (pv 7) Zb)) Zb)))
    (Ze (ZK (Zax PySem.F.plainAttrs_list PySem.F.slot_list_extend PySem.F.type_list_extend Zhd (pv 3) (Za (pv 7) Zb)))
    (Zh (Zx (i:=4) ZcH.nd rfl (Or.inl rfl) (pv 5)))))))))
   (Zh (Zm (pv 3))))))),?_⟩
  intro p dp hp hdp hdpp;refine⟨p,dp,rfl,Zd,fun ln hln=>⟨rfl,?_⟩⟩;have m1:=made (fs:=ZR .non (.ref ln)) (o:=.lst []) hp hdp hln;have p1:upd (upd (upd (upd H dp (.own p)) p (.ins Bd.pl dp [])) ln (.lst [])) p (.ins Bd.pl dp (ZR .non (.ref ln))) p=some (.ins Bd.pl dp (ZR .non (.ref ln))):=Zd;generalize upd (upd (upd (upd H dp (.own p)) p (.ins Bd.pl dp [])) ln (.lst [])) p (.ins Bd.pl dp (ZR .non (.ref ln)))=H1 at m1 p1;intro o d2 ho hd2 hdo;refine⟨o,d2,rfl,Zd,fun lt hlt=>⟨rfl,?_⟩⟩;have m2:=made (fs:=Zah .non (.ref lt)) (o:=.lst []) ho hd2 hlt;have p2:upd (upd (upd (upd H1 d2 (.own o)) o (.ins Bd.ou d2 [])) lt (.lst [])) o (.ins Bd.ou d2 (Zah .non (.ref lt))) o=some (.ins Bd.ou d2 (Zah .non (.ref lt))):=Zd;generalize upd (upd (upd (upd H1 d2 (.own o)) o (.ins Bd.ou d2 [])) lt (.lst [])) o (.ins Bd.ou d2 (Zah .non (.ref lt)))=H2 at m2 p2;refine⟨by show 0<=sizeLine;decide,fun lg hlg=>?_⟩;have hI:Zcm Ad Bd H (upd H2 lg (.lst [])) p o lg none none []:=by
   have s3:Zc H2 (hide lg (upd H2 lg (.lst []))):=fun b u e=>by
    rw[Zj0,hide_ne (Zk e hlg)];exact e
   exact⟨(m1.trans m2).trans s3,⟨dp,_,_,s3 _ _ (m2 _ _ p1),rfl⟩,⟨d2,_,_,s3 _ _ p2,rfl⟩,Zd,hp,m1.free ho,Zk p1 ho⟩
  obtain⟨cs0,ec0,hn0,ha0,hm0,hd0⟩:=Tl.Zsg hask;rw[hd0] at k;refine ZbK (fun m σ H'=>∃(i:Nat)(oe oc ot:Option V)(a1:Option Kgf1.Abs)(a2:Option Kgf2.Abs)(out:List Int)(fu:Nat)(cs:List (List (List Int))),m=ns.length - i/\σ=[some (.ref a),some (.ref p),some (.ref o),some (.ref lg),some (iV i),oe,oc,ot]/\i<=ns.length/\Zcm Ad Bd H H' p o lg a1 a2 out/\PyFlat.calls PyKgf.shape fu (ns.drop i)=some cs/\cs.all KgfNeutral.asked1=true/\KgfNeutral.may (a1,a2) cs=true/\PyFlat.told (PyFlat.played KgfNeutral.step KgfNeutral.start cs0)=out++PyFlat.told (PyFlat.played KgfNeutral.step (a1,a2) cs)/\out.length+20001 * cs.length<=20001 * 300)
   (fun σ H'=>∃(i:Nat)(oe oc ot:Option V),σ=[some (.ref a),some (.ref p),some (.ref o),some (.ref lg),some (iV i),oe,oc,ot]/\H' lg=some (.lst ((PyFlat.told (PyFlat.played KgfNeutral.step KgfNeutral.start cs0)).map V.int))) ?_ ?_ ?_
  ·exact⟨_,0,none,none,none,none,none,[],_,cs0,rfl,rfl,Nat.zero_le _,hI,ec0,ha0,hm0,rfl,by rw[List.length_nil];omega⟩
  ·rintro σ H' ⟨i,oe,oc,ot,rfl,h1⟩;exact⟨_,rfl,k lg H' h1⟩
  ·rintro exit m σ H' ⟨i,oe,oc,ot,a1,a2,out,fu,cs,rfl,rfl,hi,hA,ec,hall,hmay,edue,hlen'⟩;have sH:Zc H H':=hA.sm.trans (Za7 _ _);have hL':SqL K H' a (ns.map V.int):=sH.seq hL;refine⟨_,rfl,_,rfl,a,_,rfl,.inl hL',_,_,rfl,rfl,_,rfl,?_⟩;by_cases he:i < ns.length
   ·refine ZcY (decide_eq_true (by rw[List.length_map];omega)) ?_;have hdl:(ns.drop i).length=ns.length - i:=List.length_drop;obtain⟨c,t,cs',f',rfl,hC,ec'⟩:=Tl.Zse (fun z=>by rw[z] at hdl;simp at hdl;omega) ec;rw[List.all_cons,Bool.and_eq_true] at hall;have hmay':(!((KgfNeutral.step (a1,a2) c).2.isEmpty)&&KgfNeutral.may (KgfNeutral.step (a1,a2) c).1 cs')=true:=hmay;rw[Bool.and_eq_true] at hmay';have hne:(KgfNeutral.step (a1,a2) c).2≠[]:=fun z=>by
     have:=hmay'.1;rw[z] at this;cases this
    obtain⟨raw,n0,rr,eraw,er,hgo⟩:=ZvL hC hall.1 hne (by omega);have hrl:raw.length+t.length=ns.length - i:=by rw[←hdl,eraw,List.length_append]
    have hr1:1<=raw.length:=by rw[er,List.length_cons];omega
    have edrop:ns.drop (ns.length - t.length)=t:=by
     have:ns.length - t.length=i+raw.length:=by omega
     rw[this,←List.drop_drop,eraw,List.drop_left]
    have ecut:Zba (ns.map V.int) (some (i:Int)) (some ((ns.length - t.length:Nat):Int))=raw.map V.int:=by
     rw[ZvM (by omega) (by omega),show ns.length - t.length - i=raw.length by omega,eraw,List.take_left]
    refine⟨_,rfl,_,rfl,a,i,ns,t,c,rfl,hL',hi,hC,fun H1 s1=>?_⟩;have hL1:SqL K H1 a (ns.map V.int):=s1.seq hL';refine⟨_,rfl,_,rfl,_,rfl,_,rfl,_,rfl,a,_,rfl,hL1,fun cc hcc=>?_⟩;rw[ecut];have s2:Zc H' (upd H1 cc (.lst (raw.map V.int))):=s1.trans (Zq hcc);have hc2:upd H1 cc (.lst (raw.map V.int)) cc=some (.lst (raw.map V.int)):=Zd;have hcl:cc≠lg:=(Zk (s1 _ _ hA.lg) hcc).symm;generalize upd H1 cc (.lst (raw.map V.int))=H2 at s2 hc2;have hlg2:H2 lg=some (.lst (out.map V.int)):=s2 _ _ hA.lg;refine⟨lg,_,hlg2,True.intro,fun od=>?_⟩;have hc3:upd H2 lg (.frz od (.lst (out.map V.int))) cc=some (.lst (raw.map V.int)):=by rw[Zf hcl];exact hc2
    have h0:(raw.map V.int)[0]?=some (.int n0):=by rw[er];rfl
    refine⟨_,rfl,cc,_,_,_,rfl,rfl,SqL.of hc3,ZF (j:=0) h0,_,_,rfl,rfl,_,rfl,?_⟩;have tk:=hA.to (od:=od) (u:=.lst (out.map V.int)) s2;rcases hgo with⟨hlt,kc,a1',ans,hraw,hact,hstep⟩|⟨hge,kc,a2',ans,hraw,hact,hstep⟩
    ·refine ifD hlt ?_;refine⟨_,rfl,_,rfl,p,cc,a1,raw,kc,rfl,hA.pl.kept tk,hc3,hraw,by rw[hact];simp,fun a' an ea q H4 h4 fr hq hv hz=>?_⟩;rw[hact] at ea;cases ea;obtain⟨e4,hn⟩:=hA.ZvP s2 h4 fr;have hql:q≠lg:=fun z=>by rw[z,Zd] at hq;cases hq
     rw[ZvN] at hv hz;rw[List.length_map] at hz;have hq5:∀v,upd H4 lg v q=some (.lst ((ans.value::KgfNeutral.P1.ints ans.out).map V.int)):=fun v=>by rw[Zf hql];exact hv
     refine⟨e4,_,rfl,.inl ⟨rfl,_,SqL.of Zd⟩,_,rfl,q,_,rfl,.inl (SqL.of (hq5 _)),?_⟩;refine⟨lg,_,_,rfl,rfl,Zd,by rw[List.length_map];omega,?_⟩;rw[Z5];refine⟨_,rfl,.inl ⟨rfl,_,SqL.of Zd⟩,_,rfl,lg,q,_,_,rfl,rfl,Zd,hq5 _,by rw[List.length_append,List.length_map,List.length_map,List.length_singleton];omega,?_⟩;rw[Z5];refine⟨_,rfl,?_⟩;have em:(out.map V.int++[V.int ((((ans.value::KgfNeutral.P1.ints ans.out).map V.int).length:Nat):Int)])++(ans.value::KgfNeutral.P1.ints ans.out).map V.int=(out++((((ans.value::KgfNeutral.P1.ints ans.out).length:Nat):Int)::(ans.value::KgfNeutral.P1.ints ans.out))).map V.int:=by
      rw[List.length_map,List.append_assoc,List.map_append];rfl
     rw[em];refine⟨_,?_,ns.length - t.length,_,_,_,_,_,_,f',cs',rfl,rfl,by omega,hn _,by rw[edrop];exact ec',hall.2,?_,?_,?_⟩
     ·show ns.length - (ns.length - t.length) < ns.length - i;omega
     ·have:=hmay'.2;rw[hstep] at this;exact this
     ·rw[edue];show out++PyFlat.told ((KgfNeutral.step (a1,a2) c).2::PyFlat.played KgfNeutral.step (KgfNeutral.step (a1,a2) c).1 cs')=_;rw[Zon,hstep,List.append_assoc]
     ·rw[List.length_append,List.length_cons];rw[List.length_cons] at hlen';omega
    ·refine ifN hge ?_;refine⟨_,rfl,_,rfl,o,cc,a2,raw,kc,rfl,hA.ou.kept tk,hc3,hraw,by rw[hact];simp,fun a' an ea q H4 h4 fr hq hv hz=>?_⟩;rw[hact] at ea;cases ea;obtain⟨e4,hn⟩:=hA.ZvQ s2 h4 fr;have hql:q≠lg:=fun z=>by rw[z,Zd] at hq;cases hq
     rw[ZvO] at hv hz;rw[List.length_map] at hz;have hq5:∀v,upd H4 lg v q=some (.lst ((ans.value::KgfNeutral.P2.ints ans.out).map V.int)):=fun v=>by rw[Zf hql];exact hv
     refine⟨e4,_,rfl,.inl ⟨rfl,_,SqL.of Zd⟩,_,rfl,q,_,rfl,.inl (SqL.of (hq5 _)),?_⟩;refine⟨lg,_,_,rfl,rfl,Zd,by rw[List.length_map];omega,?_⟩;rw[Z5];refine⟨_,rfl,.inl ⟨rfl,_,SqL.of Zd⟩,_,rfl,lg,q,_,_,rfl,rfl,Zd,hq5 _,by rw[List.length_append,List.length_map,List.length_map,List.length_singleton];omega,?_⟩;rw[Z5];refine⟨_,rfl,?_⟩;have em:(out.map V.int++[V.int ((((ans.value::KgfNeutral.P2.ints ans.out).map V.int).length:Nat):Int)])++(ans.value::KgfNeutral.P2.ints ans.out).map V.int=(out++((((ans.value::KgfNeutral.P2.ints ans.out).length:Nat):Int)::(ans.value::KgfNeutral.P2.ints ans.out))).map V.int:=by
      rw[List.length_map,List.append_assoc,List.map_append];rfl
     rw[em];refine⟨_,?_,ns.length - t.length,_,_,_,_,_,_,f',cs',rfl,rfl,by omega,hn _,by rw[edrop];exact ec',hall.2,?_,?_,?_⟩
     ·show ns.length - (ns.length - t.length) < ns.length - i;omega
     ·have:=hmay'.2;rw[hstep] at this;exact this
     ·rw[edue];show out++PyFlat.told ((KgfNeutral.step (a1,a2) c).2::PyFlat.played KgfNeutral.step (KgfNeutral.step (a1,a2) c).1 cs')=_;rw[Zon,hstep,List.append_assoc]
     ·rw[List.length_append,List.length_cons];rw[List.length_cons] at hlen';omega
   ·have hie:i=ns.length:=by omega
    refine ifN (by rw[List.length_map];omega) (exit _ _ ⟨i,oe,oc,ot,rfl,?_⟩);rw[hie,List.drop_length,Tl.Zsf] at ec;cases ec;rw[edue];show H' lg=some (.lst ((out++[]).map V.int));rw[List.append_nil];exact hA.lg
end
section
variable{K:PySem.W.Frag}{mg:Str->Option Value}{h:Heap}
theorem Zj.of{x:Str}{st:Stmt}{f:Addr}{oc:Value}{od an:Option Addr}{osl:Array (Option Value)}{kV doc pm cdv ct:Value}(X:K.In h)(G:h.Ns mainGlobals mg)(a:PySem.W.nsIn K mainGlobals x=some (some (.ref f)))
  (l:K.lookup f=some ⟨oc,od,.func (PySem.W.fnOf x x (ZbS st) (ZaV st) (Zi st) .none kV doc pm an cdv ct),osl⟩) (c:PySem.W.codeIn K cdv x=true) (k:PySem.W.keepIn K (.ref f)=true):∃f,Zj K mg x st f:=⟨f,Zj.mk' (PySem.W.mg_of X G a) l c k⟩
theorem MethAt.of{C:Addr}{m qual:Str}{st:Stmt}{f:Addr}{oc:Value}{od an:Option Addr}{osl:Array (Option Value)}{kV doc pm cdv ct:Value}(a:PySem.W.findIn K (.ref C) m=some (some (.ref f)))(i:PySem.W.isFn K (.ref f)=true)
  (l:K.lookup f=some ⟨oc,od,.func (PySem.W.fnOf m qual (ZbS st) (ZaV st) (Zi st) .none kV doc pm an cdv ct),osl⟩) (c:PySem.W.codeIn K cdv qual=true) (k:PySem.W.keepIn K (.ref f)=true):∃f,MethAt K C m qual st f:=⟨f,MethAt.mk' a i l c k⟩
theorem Zv.of{C:Addr}{fields:List Str}(pg:PySem.W.plainGet K C Str.empty=true)(hd:PySem.W.hasDictIn K C=true)(po:PySem.W.plainOver K C=true)(sa:PySem.W.findIn K (.ref C) "__setattr__"=some (some (.builtin "object.__setattr__")))
  (no:fields.map (fun g=>PySem.W.findIn K (.ref C) g)=fields.map fun _=>some none):Zv K C fields:=⟨⟨pg,hd,po,sa⟩,fun g hg=>List.map_inj_left.mp no g hg⟩
theorem GI.of{x:Str}{i:Int}{t:Tok}(X:K.In h)(G:h.Ns mainGlobals mg)(a:PySem.W.nsIn K mainGlobals x=some (some (.int i t))):GI mg x i:=⟨t,PySem.W.mg_of X G a⟩
theorem GS.of{x y:Str}{t:Tok}(X:K.In h)(G:h.Ns mainGlobals mg)(a:PySem.W.nsIn K mainGlobals x=some (some (.str y t))):GS mg x y:=⟨t,PySem.W.mg_of X G a⟩
theorem XT.of{x:Str}{C:Addr}(X:K.In h)(G:h.Ns mainGlobals mg)(a:PySem.W.nsIn K mainGlobals x=some (some (.ref C)))(e:PySem.W.excIn K C bmV "ValueError.__new__"=true):XT K mg x C:=⟨PySem.W.mg_of X G a,⟨e⟩⟩
theorem Ze5.ZvS{a:Addr}{od:Option Addr}{n:Nat}{sl:Array (Option Value)}{t1 t2 t3 t4 t5 t6 t7 t8 t9 t10 t11:Tok}
  (l:K.lookup a=some ⟨.type "tuple",od,.seq #[.str "var" t1,.str "when" t2,.str "show" t3,.str "won" t4,.str "lost" t5,.str "if" t6,.str "do" t7,.str "say" t8,.str "is" t9,.str "not" t10,.str "and" t11] n,sl⟩):Ze5 K a (kwL.map fun s=>V.str (Str.ofString s)) :=
 ⟨fun H=>.inr ⟨_,_,n,l,rfl,rfl,by show 11<=sizeLine;decide,.cons ⟨t1,rfl⟩ (.cons ⟨t2,rfl⟩ (.cons ⟨t3,rfl⟩ (.cons ⟨t4,rfl⟩ (.cons ⟨t5,rfl⟩ (.cons ⟨t6,rfl⟩ (.cons ⟨t7,rfl⟩ (.cons ⟨t8,rfl⟩ (.cons ⟨t9,rfl⟩ (.cons ⟨t10,rfl⟩ (.cons ⟨t11,rfl⟩ .nil))))))))))⟩⟩
end
theorem ZvT{P:Program}{w:World}{K:PySem.W.Frag}{mg:Str->Option Value}{h:Heap}{fa f C CL CM sg kw CT CW CS CR pk re pl ou:Addr}{oc:Value}{od an:Option Addr}{osl:Array (Option Value)}{kV doc pm cdv ct:Value}(KX:K.In h)(G:h.Ns mainGlobals mg)(hfa:mg "answers"=some (.ref fa))
  (a_:PySem.W.nsIn K mainGlobals "answers"=some (some (.ref f))) (l_:K.lookup f=some ⟨oc,od,.func (PySem.W.fnOf "answers" "answers" (ZbS ZcG) (ZaV ZcG) (Zi ZcG) .none kV doc pm an cdv ct),osl⟩) (cd_:PySem.W.codeIn K cdv "answers"=true) (kp_:PySem.W.keepIn K (.ref f)=true)
  (h_hS:mg "SIGNS"=some (.ref sg))
  (h_hm:mg "When"=some (.ref CW))
  (h_hm2:mg "Show"=some (.ref CS))
  (h_hm3:mg "Reader"=some (.ref CR))
  (h_hm4:mg "Tale"=some (.ref CT))
  (h_hKW:mg "KEPT_WORDS"=some (.ref kw))
  (x_NL:XT K mg "TooLong" CL)
  (h_hm5:mg "Packed"=some (.ref pk))
  (x_NM:XT K mg "TooManyStates" CM)
  (h_hm6:mg "Reach"=some (.ref re))
  (h_hm7:mg "Play"=some (.ref pl))
  (x_NE:XT K mg "NoTale" C)
  (h_hm8:mg "Outlook"=some (.ref ou))
  (d_is_letter:∃f,Zj K mg "is_letter" Zh3 f)
  (d_is_digit:∃f,Zj K mg "is_digit" Zh4 f)
  (d_is_big:∃f,Zj K mg "is_big_letter" Zh5 f)
  (d_name_sign:∃f,Zj K mg "name_sign" Zh6 f)
  (g_hL:GS mg "LETTERS" Ze1)
  (g_hD:GS mg "DIGITS" Ze2)
  (d_end_of_name:∃f,Zj K mg "end_of_name" Zh7 f)
  (h_hlen:mg "len"=none)
  (g_hM:GI mg "MOST_NAME_SIGNS" 12)
  (d_end_of_string:∃f,Zj K mg "end_of_string" Zh8 f)
  (g_hM2:GI mg "MOST_STRING_SIGNS" 255)
  (g_hQ:GI mg "QUOTE" 34)
  (g_hB:GI mg "BLANK" 32)
  (g_hL2:GI mg "LAST_CODE" 126)
  (d_end_of_word:∃f,Zj K mg "end_of_word" Zh9 f)
  (k_kd:Zef K sg Zeg)
  (d_word_from:∃f,Zj K mg "word_from" Zf2 f)
  (d_words_of:∃f,Zj K mg "words_of" Zia f)
  (g_hLF:GI mg "LINE_FEED" 10)
  (d_plain_line:∃f,Zj K mg "plain_line" Zib f)
  (d_holds:∃f,Zj K mg "holds" Zik f)
  (d_first_state:∃f,Zj K mg "first_state" Ziq f)
  (c_CT:Zv K CT Za8)
  (d_some_holds:∃f,Zj K mg "some_holds" Zf3 f)
  (h_hany:mg "any"=none)
  (d_status_of:∃f,Zj K mg "status_of" Zir f)
  (g_hL3:GI mg "LOST" 2)
  (g_hW:GI mg "WON" 1)
  (g_hG:GI mg "GOES_ON" 0)
  (d_whens_typed:∃f,Zj K mg "whens_typed" Zge f)
  (c_CW:Zv K CW Zdz)
  (d_first_to_do:∃f,Zj K mg "first_to_do" Zis f)
  (d_state_behind:∃f,Zj K mg "state_behind" Zit f)
  (h_hlist:mg "list"=none)
  (d_shown:∃f,Zj K mg "shown" Ziu f)
  (c_CS:Zv K CS Zin)
  (d_when_init:∃f,MethAt K CW "__init__" "When.__init__" Ziz f)
  (p_mk:PySem.W.makesIn K CW=true)
  (p_kc:PySem.W.keepIn K (.ref CW)=true)
  (d_show_init:∃f,MethAt K CS "__init__" "Show.__init__" ZiA f)
  (p_mk2:PySem.W.makesIn K CS=true)
  (p_kc2:PySem.W.keepIn K (.ref CS)=true)
  (d_rd_init:∃f,MethAt K CR "__init__" "Reader.__init__" ZiC f)
  (p_mk3:PySem.W.makesIn K CR=true)
  (p_kc3:PySem.W.keepIn K (.ref CR)=true)
  (c_CR:Zv K CR rdF)
  (d_rd_done:∃f,MethAt K CR "done" "Reader.done" ZiD f)
  (d_rd_sees:∃f,MethAt K CR "sees" "Reader.sees" ZiE f)
  (d_rd_take:∃f,MethAt K CR "take" "Reader.take" ZiF f)
  (d_rd_passes:∃f,MethAt K CR "passes" "Reader.passes" ZiG f)
  (d_rd_need:∃f,MethAt K CR "need" "Reader.need" ZiH f)
  (d_check_count:∃f,Zj K mg "check_count" ZiJ f)
  (d_tale_init:∃f,MethAt K CT "__init__" "Tale.__init__" ZiB f)
  (p_mk4:PySem.W.makesIn K CT=true)
  (p_kc4:PySem.W.keepIn K (.ref CT)=true)
  (d_read_choices:∃f,Zj K mg "read_choices" ZiN f)
  (g_hL4:GI mg "LEAST_CHOICES" 2)
  (g_hM3:GI mg "MOST_CHOICES" 16)
  (d_read_var_number:∃f,Zj K mg "read_var_number" ZiP f)
  (d_read_choice_number:∃f,Zj K mg "read_choice_number" ZiQ f)
  (d_read_var:∃f,Zj K mg "read_var" ZiO f)
  (k_kT:Ze5 K kw (kwL.map fun s=>V.str (Str.ofString s)))
  (d_cond_part:∃f,Zj K mg "read_condition_part" ZiX f)
  (d_chg_part:∃f,Zj K mg "read_change_part" ZiY f)
  (d_read_cond:∃f,Zj K mg "read_condition" Zi2 f)
  (g_hM4:GI mg "MOST_PARTS" 16)
  (d_read_change:∃f,Zj K mg "read_change" Zgp f)
  (h_hset:mg "set"=none)
  (d_read_if:∃f,Zj K mg "read_if" Zi3 f)
  (d_check_typed:∃f,Zj K mg "check_typed" Zi7 f)
  (g_hM5:GI mg "MOST_TYPED" 40)
  (d_read_show:∃f,Zj K mg "read_show" Zi9 f)
  (d_read_end:∃f,Zj K mg "read_end" Zja f)
  (d_read_when:∃f,Zj K mg "read_when" Zi8 f)
  (d_read_rule:∃f,Zj K mg "read_rule" Zjb f)
  (d_check_tale:∃f,Zj K mg "check_tale" Zjc f)
  (g_m1:GI mg "MOST_VARS" 24)
  (g_m2:GI mg "MOST_WHENS" 128)
  (g_m3:GI mg "MOST_SHOWS" 64)
  (g_m4:GI mg "MOST_WONS" 16)
  (g_m5:GI mg "MOST_LOSTS" 16)
  (d_tale_of:∃f,Zj K mg "tale_of" Zjd f)
  (g_hMT:GI mg "MOST_TEXT" 24576)
  (d_bits_of:∃f,Zj K mg "bits_of" Zjg f)
  (d_every_bit:∃f,Zj K mg "every_bit" Zgt f)
  (h_hsum:mg "sum"=none)
  (d_barred_by:∃f,Zj K mg "barred_by" Zji f)
  (d_packed_state:∃f,Zj K mg "packed_state" Zgu f)
  (h_hzip:mg "zip"=none)
  (d_is_state:∃f,Zj K mg "is_state" Zjh f)
  (h_henum:mg "enumerate"=none)
  (d_numbers_of:∃f,Zj K mg "numbers_of" Zgv f)
  (d_marks_of:∃f,Zj K mg "marks_of" Zgy f)
  (h_htup:mg "tuple"=none)
  (d_move_of:∃f,Zj K mg "move_of" Zjn f)
  (d_moves_of:∃f,Zj K mg "moves_of" Zgz f)
  (d_status_in:∃f,Zj K mg "status_in" Zjq f)
  (c_CK:Zv K pk ZdH)
  (d_turns_from:∃f,Zj K mg "turns_from" Zjr f)
  (d_pack_init:∃f,MethAt K pk "__init__" "Packed.__init__" ZgC f)
  (p_mk5:PySem.W.makesIn K pk=true)
  (p_kc5:PySem.W.keepIn K (.ref pk)=true)
  (d_re_enter:∃f,MethAt K re "enter" "Reach.enter" Zjx f)
  (c_CR2:Zv K re reachF)
  (g_hMS:GI mg "MOST_STATES" 65536)
  (d_re_init:∃f,MethAt K re "__init__" "Reach.__init__" Zjw f)
  (p_mk6:PySem.W.makesIn K re=true)
  (p_kc6:PySem.W.keepIn K (.ref re)=true)
  (d_visit:∃f,Zj K mg "visit" Zjz f)
  (d_measure:∃f,Zj K mg "measure" Zfg f)
  (g_hNA:GI mg "NOT_ANY" (-1))
  (d_reach_of:∃f,Zj K mg "reach_of" ZjB f)
  (d_place_of:∃f,Zj K mg "place_of" ZjD f)
  (d_numbers_at:∃f,Zj K mg "numbers_at" ZjE f)
  (d_stuck_places:∃f,Zj K mg "stuck_places" ZgH f)
  (d_nearer:∃f,Zj K mg "nearer_when" ZgG f)
  (h_hmin:mg "min"=none)
  (d_play_init:∃f,MethAt K pl "__init__" "Play.__init__" ZjG f)
  (p_mk7:PySem.W.makesIn K pl=true)
  (p_kc7:PySem.W.keepIn K (.ref pl)=true)
  (c_CP:Zv K pl Zc8)
  (d_play_read:∃f,MethAt K pl "read" "Play.read" ZjH f)
  (p_hx:PySem.W.exmOne K (.ref C) (.ref CL)=some false)
  (g_hTL:GI mg "TOO_LONG" (-22))
  (g_hNT:GI mg "NOT_A_TALE" (-71))
  (d_play_begin:∃f,MethAt K pl "begin" "Play.begin" ZjI f)
  (d_play_status:∃f,MethAt K pl "status" "Play.status" ZjK f)
  (d_play_state:∃f,MethAt K pl "state" "Play.state" ZjL f)
  (d_play_say:∃f,MethAt K pl "say" "Play.say" ZjJ f)
  (g_hML:GI mg "MOST_LINE" 255)
  (g_hOV:GI mg "OVER" (-1))
  (g_hNK:GI mg "NOT_KNOWN" 0)
  (g_hNN:GI mg "NOT_NOW" 1)
  (g_hDN:GI mg "DONE" 2)
  (d_out_init:∃f,MethAt K ou "__init__" "Outlook.__init__" ZjO f)
  (p_mk8:PySem.W.makesIn K ou=true)
  (p_kc8:PySem.W.keepIn K (.ref ou)=true)
  (c_CO:Zv K ou outF)
  (d_out_read:∃f,MethAt K ou "read" "Outlook.read" ZjP f)
  (p_hx2:PySem.W.exmOne K (.ref CM) (.ref CL)=some false)
  (p_hx3:PySem.W.exmOne K (.ref CM) (.ref C)=some false)
  (g_hTM:GI mg "TOO_MANY_STATES" (-28))
  (d_out_best:∃f,MethAt K ou "best" "Outlook.best" ZjQ f)
  (g_hNS:GI mg "NONE_SUCH" (-2))
  (d_out_look:∃f,MethAt K ou "look" "Outlook.look" ZjR f)
  (d_out_stuck:∃f,MethAt K ou "stuck" "Outlook.stuck" ZjS f)
  (d_end_of_call:∃f,Zj K mg "end_of_call" ZjZ f)
  (g_c0:GI mg "READ" 0)
  (g_c2:GI mg "SAY" 2)
  (g_c10:GI mg "READ_AHEAD" 10)
  (g_c11:GI mg "BEST" 11)
  (g_c13:GI mg "STUCK" 13)
  (d_ans_play:∃f,Zj K mg "answer_of_play" ZjX f)
  (g_c1:GI mg "START" 1)
  (g_c3:GI mg "STATUS" 3)
  (g_c4:GI mg "STATE" 4)
  (d_ans_out:∃f,Zj K mg "answer_of_outlook" ZjY f)
  (g_c12:GI mg "LOOK" 12) :
  ∃fd:FuncData,(∀(s:Shared)(u:Value),BindsTo s fd ⟨[u],[]⟩ [("calls",u)])/\∀base:Heap,K.In base->base.Ns mainGlobals mg->ZaH P w K mg base CX0 13 fa fd ["calls"] (ZgR K):=by
 have e:=hfa.symm.trans (PySem.W.mg_of KX G a_);cases e;have FA:=Zht (st:=ZcG) l_ cd_ kp_;refine⟨PySem.W.fnOf "answers" "answers" (ZbS ZcG) (ZaV ZcG) (Zi ZcG) .none kV doc pm an cdv ct,fun s u=>.of_eq rfl,fun base _ _=>?_⟩;have NTh:NT K mg C:=⟨x_NE.mg,x_NE.ex⟩
 obtain⟨_,dis_letter⟩:=d_is_letter;have ois_letter:=Zsr (P:=P) (w:=w) (base:=base) dis_letter;obtain⟨_,dis_digit⟩:=d_is_digit;have ois_digit:=Zst (P:=P) (w:=w) (base:=base) dis_digit;obtain⟨_,dis_big⟩:=d_is_big;have ois_big:=Zsv (P:=P) (w:=w) (base:=base) dis_big;obtain⟨_,dname_sign⟩:=d_name_sign;have oname_sign:=Zsz dname_sign g_hL g_hD ois_letter;obtain⟨_,dend_of_name⟩:=d_end_of_name;have oend_of_name:=ZsA dend_of_name NTh h_hlen g_hM ois_letter ois_digit;obtain⟨_,dend_of_string⟩:=d_end_of_string;have oend_of_string:=ZsB (P:=P) (w:=w) (base:=base) dend_of_string NTh h_hlen g_hM2 g_hQ g_hB g_hL2;obtain⟨_,dend_of_word⟩:=d_end_of_word;have oend_of_word:=ZsG dend_of_word NTh g_hQ h_hS k_kd ois_letter oend_of_name oend_of_string;obtain⟨_,dword_from⟩:=d_word_from;have oword_from:=ZsK dword_from g_hQ h_hS k_kd ois_letter oname_sign;obtain⟨_,dwords_of⟩:=d_words_of;have owords_of:=ZsO dwords_of NTh h_hlen g_hLF g_hB oend_of_word oword_from;obtain⟨_,dplain_line⟩:=d_plain_line;have oplain_line:=ZsR dplain_line h_hlen g_hB ois_big;obtain⟨_,dholds⟩:=d_holds;have oholds:=ZsV (P:=P) (w:=w) (base:=base) dholds;obtain⟨_,dfirst_state⟩:=d_first_state;have ofirst_state:=ZsZ (P:=P) (w:=w) (base:=base) (Ad:=(⟨CT,CW,CS,CR,0⟩:Ads)) dfirst_state h_hlen c_CT;obtain⟨_,dsome_holds⟩:=d_some_holds;have osome_holds:=Zs2 dsome_holds h_hany oholds;obtain⟨_,dstatus_of⟩:=d_status_of;have ostatus_of:=Zs4 (Ad:=(⟨CT,CW,CS,CR,0⟩:Ads)) dstatus_of c_CT g_hL3 g_hW g_hG osome_holds;obtain⟨_,dwhens_typed⟩:=d_whens_typed;have owhens_typed:=Zs7 (P:=P) (w:=w) (base:=base) (Ad:=(⟨CT,CW,CS,CR,0⟩:Ads)) dwhens_typed c_CT c_CW;obtain⟨_,dfirst_to_do⟩:=d_first_to_do;have ofirst_to_do:=Zs9 (Ad:=(⟨CT,CW,CS,CR,0⟩:Ads)) dfirst_to_do c_CW oholds;obtain⟨_,dstate_behind⟩:=d_state_behind;have ostate_behind:=Ztb (P:=P) (w:=w) (base:=base) dstate_behind h_hlist;obtain⟨_,dshown⟩:=d_shown;have oshown:=Ztc (Ad:=(⟨CT,CW,CS,CR,0⟩:Ads)) dshown c_CT c_CS g_hLF oholds;obtain⟨_,dwhen_init⟩:=d_when_init;have owhen_init:=Ztf (P:=P) (w:=w) (base:=base) (Ad:=(⟨CT,CW,CS,CR,0⟩:Ads)) dwhen_init h_hm p_mk p_kc c_CW;obtain⟨_,dshow_init⟩:=d_show_init;have oshow_init:=Zti (P:=P) (w:=w) (base:=base) (Ad:=(⟨CT,CW,CS,CR,0⟩:Ads)) dshow_init h_hm2 p_mk2 p_kc2 c_CS;obtain⟨_,drd_init⟩:=d_rd_init;have ord_init:=Ztk (P:=P) (w:=w) (base:=base) (Ad:=(⟨CT,CW,CS,CR,0⟩:Ads)) drd_init h_hm3 p_mk3 p_kc3 c_CR;obtain⟨_,drd_done⟩:=d_rd_done;have ord_done:=Ztm (P:=P) (w:=w) (base:=base) (Ad:=(⟨CT,CW,CS,CR,0⟩:Ads)) drd_done c_CR h_hlen;obtain⟨_,drd_sees⟩:=d_rd_sees;have ord_sees:=Ztp (Ad:=(⟨CT,CW,CS,CR,0⟩:Ads)) drd_sees c_CR ord_done;obtain⟨_,drd_take⟩:=d_rd_take;have ord_take:=Ztr (Ad:=(⟨CT,CW,CS,CR,0⟩:Ads)) drd_take NTh c_CR ord_sees;obtain⟨_,drd_passes⟩:=d_rd_passes;have ord_passes:=Ztt (Ad:=(⟨CT,CW,CS,CR,0⟩:Ads)) drd_passes c_CR ord_sees;obtain⟨_,drd_need⟩:=d_rd_need;have ord_need:=Ztv (Ad:=(⟨CT,CW,CS,CR,0⟩:Ads)) drd_need NTh c_CR ord_passes;obtain⟨_,dcheck_count⟩:=d_check_count;have ocheck_count:=Ztx (P:=P) (w:=w) (base:=base) dcheck_count NTh;obtain⟨_,dtale_init⟩:=d_tale_init;have otale_init:=ZtA (P:=P) (w:=w) (base:=base) (Ad:=(⟨CT,CW,CS,CR,0⟩:Ads)) dtale_init h_hm4 p_mk4 p_kc4 c_CT;obtain⟨_,dread_choices⟩:=d_read_choices;have RR:Rdr P w K mg base (⟨CT,CW,CS,CR,0⟩:Ads) C:=⟨c_CR,NTh,ord_done,ord_sees,ord_take,ord_passes,ord_need,ocheck_count⟩
 have oread_choices:=ZtC (Ad:=(⟨CT,CW,CS,CR,0⟩:Ads)) dread_choices RR h_hlen g_hL4 g_hM3;obtain⟨_,dread_var_number⟩:=d_read_var_number;have oread_var_number:=ZtH (Ad:=(⟨CT,CW,CS,CR,0⟩:Ads)) dread_var_number RR c_CT;obtain⟨_,dread_choice_number⟩:=d_read_choice_number;have oread_choice_number:=ZtI (Ad:=(⟨CT,CW,CS,CR,0⟩:Ads)) dread_choice_number RR;obtain⟨_,dread_var⟩:=d_read_var;have oread_var:=ZtL (Ad:=(⟨CT,CW,CS,CR,0⟩:Ads)) dread_var RR c_CT h_hlen h_hKW k_kT oread_choices;obtain⟨_,dcond_part⟩:=d_cond_part;have ocond_part:=ZtN (Ad:=(⟨CT,CW,CS,CR,0⟩:Ads)) dcond_part RR c_CT oread_var_number oread_choice_number;obtain⟨_,dchg_part⟩:=d_chg_part;have ochg_part:=ZtP (Ad:=(⟨CT,CW,CS,CR,0⟩:Ads)) dchg_part RR c_CT oread_var_number oread_choice_number;obtain⟨_,dread_cond⟩:=d_read_cond;have oread_cond:=ZtQ (Ad:=(⟨CT,CW,CS,CR,0⟩:Ads)) dread_cond RR h_hlen g_hM4 ocond_part;obtain⟨_,dread_change⟩:=d_read_change;have oread_change:=ZtT (Ad:=(⟨CT,CW,CS,CR,0⟩:Ads)) dread_change RR h_hlen h_hset g_hM4 ochg_part;obtain⟨_,dread_if⟩:=d_read_if;have oread_if:=ZtV (Ad:=(⟨CT,CW,CS,CR,0⟩:Ads)) dread_if RR oread_cond;obtain⟨_,dcheck_typed⟩:=d_check_typed;have ocheck_typed:=ZtW dcheck_typed NTh h_hlen g_hM5 g_hB ocheck_count ois_letter ois_digit oplain_line;obtain⟨_,dread_show⟩:=d_read_show;have oread_show:=Zt3 (Ad:=(⟨CT,CW,CS,CR,0⟩:Ads)) dread_show RR c_CT oread_if oshow_init;obtain⟨_,dread_end⟩:=d_read_end;have oread_end:=Zt5 (Ad:=(⟨CT,CW,CS,CR,0⟩:Ads)) dread_end RR oread_cond;obtain⟨_,dread_when⟩:=d_read_when;have oread_when:=Zt6 (Ad:=(⟨CT,CW,CS,CR,0⟩:Ads)) dread_when RR c_CT ocheck_typed oread_if oread_change owhen_init;obtain⟨_,dread_rule⟩:=d_read_rule;have oread_rule:=Zt9 (Ad:=(⟨CT,CW,CS,CR,0⟩:Ads)) dread_rule RR c_CT oread_when oread_show oread_end;obtain⟨_,dcheck_tale⟩:=d_check_tale;have ocheck_tale:=Zub (Ad:=(⟨CT,CW,CS,CR,0⟩:Ads)) dcheck_tale c_CT h_hlen g_m1 g_m2 g_m3 g_m4 g_m5 ocheck_count;obtain⟨_,dtale_of⟩:=d_tale_of;have otale_of:=Zue (Ad:=(⟨CT,CW,CS,CR,0⟩:Ads)) dtale_of RR x_NL h_hlen g_hMT owords_of ord_init otale_init oread_var oread_rule ocheck_tale;obtain⟨_,dbits_of⟩:=d_bits_of;have obits_of:=Zuj (P:=P) (w:=w) (base:=base) (Ad:=(⟨CT,CW,CS,CR,0⟩:Ads)) dbits_of c_CT h_hlen;obtain⟨_,devery_bit⟩:=d_every_bit;have oevery_bit:=Zum (P:=P) (w:=w) (base:=base) devery_bit h_hsum;obtain⟨_,dbarred_by⟩:=d_barred_by
 have obarred_by:=Zun (P:=P) (w:=w) (base:=base) dbarred_by h_hsum;obtain⟨_,dpacked_state⟩:=d_packed_state;have opacked_state:=Zuq (P:=P) (w:=w) (base:=base) dpacked_state h_hsum h_hzip;obtain⟨_,dis_state⟩:=d_is_state;have ois_state:=Zur (P:=P) (w:=w) (base:=base) dis_state h_hlen h_henum;obtain⟨_,dnumbers_of⟩:=d_numbers_of;have onumbers_of:=Zuv (P:=P) (w:=w) (base:=base) dnumbers_of h_hlen h_henum g_m1;obtain⟨_,dmarks_of⟩:=d_marks_of;have omarks_of:=ZuC (P:=P) (w:=w) (base:=base) (Ad:=(⟨CT,CW,CS,CR,0⟩:Ads)) dmarks_of c_CW h_htup;obtain⟨_,dmove_of⟩:=d_move_of;have omove_of:=ZuE (Ad:=(⟨CT,CW,CS,CR,0⟩:Ads)) dmove_of c_CW h_hsum oevery_bit obarred_by
 obtain⟨_,dmoves_of⟩:=d_moves_of;have omoves_of:=ZuH (Ad:=(⟨CT,CW,CS,CR,0⟩:Ads)) dmoves_of h_henum oevery_bit omarks_of omove_of;obtain⟨_,dstatus_in⟩:=d_status_in;have ostatus_in:=ZuN (P:=P) (w:=w) (base:=base) (Bd:=(⟨pk,re,pl,ou⟩:Bds)) dstatus_in c_CK g_hL3 g_hW g_hG;obtain⟨_,dturns_from⟩:=d_turns_from;have oturns_from:=ZuO (P:=P) (w:=w) (base:=base) (Bd:=(⟨pk,re,pl,ou⟩:Bds)) dturns_from c_CK;obtain⟨_,dpack_init⟩:=d_pack_init;have opack_init:=ZuQ (Ad:=(⟨CT,CW,CS,CR,0⟩:Ads)) (Bd:=(⟨pk,re,pl,ou⟩:Bds)) dpack_init h_hm5 p_mk5 p_kc5 c_CK c_CT obits_of opacked_state ofirst_state obarred_by omoves_of;obtain⟨_,dre_enter⟩:=d_re_enter;have ore_enter:=ZuV (P:=P) (w:=w) (base:=base) (Bd:=(⟨pk,re,pl,ou⟩:Bds)) dre_enter c_CR2 x_NM h_hlen g_hMS;obtain⟨_,dre_init⟩:=d_re_init;have ore_init:=ZuX (Ad:=(⟨CT,CW,CS,CR,0⟩:Ads)) (Bd:=(⟨pk,re,pl,ou⟩:Bds)) dre_init h_hm6 p_mk6 p_kc6 c_CR2 opack_init;obtain⟨_,dvisit⟩:=d_visit;have ovisit:=ZuZ (Bd:=(⟨pk,re,pl,ou⟩:Bds)) dvisit c_CR2 g_hG ostatus_in oturns_from ore_enter;obtain⟨_,dmeasure⟩:=d_measure;have omeasure:=Zu5 (P:=P) (w:=w) (base:=base) (Bd:=(⟨pk,re,pl,ou⟩:Bds)) dmeasure c_CR2 h_hlen h_henum g_hW g_hNA;obtain⟨_,dreach_of⟩:=d_reach_of;have oreach_of:=Zu6 (Ad:=(⟨CT,CW,CS,CR,0⟩:Ads)) (Bd:=(⟨pk,re,pl,ou⟩:Bds)) dreach_of c_CR2 c_CK h_hlen ore_init ore_enter ovisit omeasure;obtain⟨_,dplace_of⟩:=d_place_of;have oplace_of:=Zu7 (Bd:=(⟨pk,re,pl,ou⟩:Bds)) dplace_of c_CR2 c_CK ois_state opacked_state;obtain⟨_,dnumbers_at⟩:=d_numbers_at;have onumbers_at:=Zu9 (Bd:=(⟨pk,re,pl,ou⟩:Bds)) dnumbers_at c_CR2 c_CK onumbers_of;obtain⟨_,dstuck_places⟩:=d_stuck_places;have ostuck_places:=Zvc (P:=P) (w:=w) (base:=base) (Bd:=(⟨pk,re,pl,ou⟩:Bds)) dstuck_places c_CR2 h_henum g_hG g_hNA;obtain⟨_,dnearer⟩:=d_nearer;have onearer:=Zvg (Bd:=(⟨pk,re,pl,ou⟩:Bds)) dnearer c_CR2 h_hmin oturns_from;obtain⟨_,dplay_init⟩:=d_play_init;have oplay_init:=Zvj (P:=P) (w:=w) (base:=base) (Bd:=(⟨pk,re,pl,ou⟩:Bds)) dplay_init h_hm7 p_mk7 p_kc7 c_CP;obtain⟨_,dplay_read⟩:=d_play_read;have oplay_read:=Zvk (Ad:=(⟨CT,CW,CS,CR,0⟩:Ads)) (Bd:=(⟨pk,re,pl,ou⟩:Bds)) dplay_read c_CP x_NL x_NE p_hx g_hTL g_hNT otale_of ofirst_state;obtain⟨_,dplay_begin⟩:=d_play_begin;have oplay_begin:=Zvn (Ad:=(⟨CT,CW,CS,CR,0⟩:Ads)) (Bd:=(⟨pk,re,pl,ou⟩:Bds)) dplay_begin c_CP ofirst_state;obtain⟨_,dplay_status⟩:=d_play_status;have oplay_status:=Zvp (Ad:=(⟨CT,CW,CS,CR,0⟩:Ads)) (Bd:=(⟨pk,re,pl,ou⟩:Bds)) dplay_status c_CP ostatus_of;obtain⟨_,dplay_state⟩:=d_play_state;have oplay_state:=Zvr (P:=P) (w:=w) (base:=base) (Ad:=(⟨CT,CW,CS,CR,0⟩:Ads)) (Bd:=(⟨pk,re,pl,ou⟩:Bds)) dplay_state c_CP h_hlen g_m1;obtain⟨_,dplay_say⟩:=d_play_say;have oplay_say:=Zvt (Ad:=(⟨CT,CW,CS,CR,0⟩:Ads)) (Bd:=(⟨pk,re,pl,ou⟩:Bds)) dplay_say c_CP c_CW h_hlen g_hML g_hTL g_hG g_hOV g_hNK g_hNN g_hDN ostatus_of owhens_typed oplain_line ofirst_to_do ostate_behind oshown;obtain⟨_,dout_init⟩:=d_out_init;have oout_init:=Zvy (P:=P) (w:=w) (base:=base) (Bd:=(⟨pk,re,pl,ou⟩:Bds)) dout_init h_hm8 p_mk8 p_kc8 c_CO;obtain⟨_,dout_read⟩:=d_out_read;have oout_read:=Zvz (Ad:=(⟨CT,CW,CS,CR,0⟩:Ads)) (Bd:=(⟨pk,re,pl,ou⟩:Bds)) dout_read c_CO x_NL x_NE x_NM p_hx p_hx2 p_hx3 g_hTL g_hNT g_hTM otale_of oreach_of ostuck_places;obtain⟨_,dout_best⟩:=d_out_best;have oout_best:=ZvB (Bd:=(⟨pk,re,pl,ou⟩:Bds)) dout_best c_CO c_CR2 g_hNS oplace_of onearer;obtain⟨_,dout_look⟩:=d_out_look;have oout_look:=ZvD (P:=P) (w:=w) (base:=base) (Bd:=(⟨pk,re,pl,ou⟩:Bds)) dout_look c_CO c_CR2 h_hlen g_hW g_hL3;obtain⟨_,dout_stuck⟩:=d_out_stuck;have oout_stuck:=ZvG (Bd:=(⟨pk,re,pl,ou⟩:Bds)) dout_stuck c_CO h_hlen g_hNS onumbers_at;obtain⟨_,dend_of_call⟩:=d_end_of_call;have oend_of_call:=ZvI (P:=P) (w:=w) (base:=base) dend_of_call g_c0 g_c2 g_c10 g_c11 g_c13;obtain⟨_,dans_play⟩:=d_ans_play;have oans_play:=ZvJ (Ad:=(⟨CT,CW,CS,CR,0⟩:Ads)) (Bd:=(⟨pk,re,pl,ou⟩:Bds)) dans_play c_CP g_c0 g_c1 g_c2 g_c3 g_c4 oplay_read oplay_begin oplay_say oplay_status oplay_state;obtain⟨_,dans_out⟩:=d_ans_out;have oans_out:=ZvK (Bd:=(⟨pk,re,pl,ou⟩:Bds)) dans_out c_CO g_c10 g_c11 g_c12 g_c13 oout_read oout_best oout_look oout_stuck;exact ZvR (Ad:=(⟨CT,CW,CS,CR,0⟩:Ads)) (Bd:=(⟨pk,re,pl,ou⟩:Bds)) FA h_hlen g_c10 oplay_init oout_init oend_of_call oans_play oans_out
theorem Zoo:PySem.Challenge.rw_toldtale_s01_answers.wellSaid=true:=by decide +kernel
theorem ZvU(args:List PySem.W.WData)(h:PySem.Challenge.rw_toldtale_s01_answers.pre args=true):∃ns:List Int,args=[.list (ns.map .int)]/\ns.length<=sizeLine/\(PyKgf.answers_asked ns=true/\ns.length<=30000)/\PySem.Challenge.rw_toldtale_s01_answers.post args (.list ((PyKgf.answers ns).map .int))=true:=by
 obtain⟨a,h1,h2,e⟩:=(PySem.W.OpenSpec.pre_iff Zoo args).mp h;have hp:=(PySem.W.OpenSpec.post_iff Zoo h1 (.list ((PyKgf.answers a.1).map .int)) []).mpr rfl;have hl:((PySem.W.Codec.inLen 0 30000 a.1&&a.1.all (PySem.W.Codec.inInt 0 4294967295))&&true)=true:=h1;rw[Bool.and_true,Bool.and_eq_true] at hl;have hl':(decide (0<=a.1.length)&&decide (a.1.length<=30000))=true:=hl.1;rw[Bool.and_eq_true,decide_eq_true_eq,decide_eq_true_eq] at hl';have big:sizeLine=16777216:=by decide
 refine⟨a.1,e,by omega,⟨h2,hl'.2⟩,?_⟩;rw[e];exact hp
open PySem L2 PyProof.Rows
theorem walk{q:Program}{loose:List Str}{XP:(Str->Option Value)->Heap->Prop}{YP:World->Heap->Prop}{d:DefRec}{K:Params->PySem.W.Frag}(hdf:d.params.defaults=[])
  (hY:∀(w:World)(h:Heap),YP w h->(K w.params).In h)
  (F:∀(w:World)(mg:Str->Option Value)(fa:Addr)(h:Heap),(K w.params).In h->h.Ns mainGlobals mg->mg d.name=some (.ref fa) ->
   ∃fd:FuncData,(∀(s:Shared)(u:Value),BindsTo s fd ⟨[u],[]⟩ [("calls",u)])/\∀base:Heap,(K w.params).In base->base.Ns mainGlobals mg->ZaH PySem.Challenge.rw_toldtale_s01_answers.prog w (K w.params) mg base CX0 13 fa fd ["calls"] (ZgR (K w.params))) :
  PySem.W.WalkOS q loose XP YP PySem.Challenge.rw_toldtale_s01_answers d [] (fun f vs=>PySem.call f vs) :=
 L2.Zsk (k:=13) (CX:=fun _=>CX0) (sp:=fun w=>ZgR (K w.params)) (f:=PyKgf.answers) (ok:=fun ns=>PyKgf.answers_asked ns=true/\ns.length<=30000) hdf ⟨rfl,by decide,by decide⟩ ZvU hY F
  (fun w H a ns hok _ hS=>⟨a,ns,rfl,hS,hok.1,hok.2,fun q H' hq=>⟨q,rfl,hq⟩⟩) fun _ _ _ _ _ z=>z
end Tp
inductive PySem.W.Fast:Prop|tw12944997537062845028|tw16275187857177322684|tw7180345087330844816|tw9568068855875473957|tw4891725690154890661|tw9418894830144653210|tw3091467697815928790|tw2248538655870189329|tw2368253157248625860|tw1197170721684855661|tw15107166065911740638|tw4659660381732881237|tw867325226847356861|tw2607332854529053752|tw17083258080116001224|tw9651216876645860819|tw7991832413611165353|tw7245761086614069879|tw9891745137712233309|tw10825795272978374909|tw5177801892056314130|tw18220640363094101992|tw14128882381181692523|tw11751241456848561739|tw12786622412454625766|tw8496004727830008499|tw3786222257762067409|tw705542771849688834|tw10216223528679267201|tw17593076099193925140|tw4552232148886833201|tw7913257458720045183|tw18165116446714775263|tw3528321051598828494|tw3669933182561268316|tw12798409023605919242|tw4799349589014561337|tw9180270017479027889|tw16674970639826255392|tw15910425962623273522|tw3551637388300748163|tw13069217566448159663|tw3258604927170265088|tw6219603519291699521|tw11376471723154488968|tw9407680860542942365|tw6988176044755566332|tw8522256827496180007|tw14627952856209487225|tw16444006717749853119|tw7854063145486123726|tw12998992788544452832|tw2418877710822682414|tw1422601261168249556|tw13778176976581040649|tw2655860731238988246|tw14416460821015112050|tw6249660434028179081|tw17203275348180178244|tw4497565503215835459|tw10719242555448025132|tw9659159129036964955|tw2093389492427079384|tw1115406214747524291|tw17141225815684560335|tw11708208215912085995|tw15114308844262588106|tw14205709846460698518|tw1449518986476779301|tw18237962270533908955|tw11114586277139300414|tw18030071977913928792|tw7350299149296832973|tw4750760540386700481|tw3427619819766649650|tw2642041777385134284|tw9570810366963477293|tw9174199646822169000|tw15290258313056754344|tw9642258599759919169|tw16133736831809616573|tw13993240433783538275|tw8045361066591666571|tw14229719945929504869|tw8868911483396367199|tw2646427078821909317|tw18173808965278807532|tw7425389967528832066|tw333548823804504714|tw9634122978792073686|tw11394700449567290237|tw16590115070070088218|tw16271045151293839361|tw3020120390137861118|tw333847682030744148|tw14584018873942339200|tw17202777766690788538|tw18290431892690359307|tw16843847793278333339|tw15295797776247368761|tw12918631908040032026|tw16096082291698091914|tw17278638182490399039|tw13123652289473958730|tw9914450684483457058|tw511874613727429554|tw1133722299363256000|tw17678997857704912882|tw12301384340460775513|tw14480110746464064735|tw10200055351194944578|tw15115752305644463626|tw12056894088805778996|tw6376718204971987531|tw11106719858103845535|tw8323642589294990499|tw7802860163712549544|tw12430969197652221679|tw11640795707833951877|tw15879430278073697745
namespace PySem.W.Fast
def tw3899465709321807364:=0
def tw17584096558604230603:=0
def tw16772432284352855866:=0
def tw2795461359267431508:=0
def tw3532805200497111876:=0
def tw963923224380490798:=0
def tw11986224746116337531:=0
def tw243642701478710783:=0
def tw7357681905498050115:=0
def tw6250745307344512866:=0
def tw3743466570114207830:=0
def tw1515355505340904637:=0
def tw11336009417928388183:=0
def tw16568426627974290263:=0
def tw13759212127239567625:=0
def tw15795589012235771767:=0
def tw14224673419819417146:=0
def tw6151631374929700123:=0
def tw17484537921123273327:=0
def tw10965990964859471828:=0
def tw17675805503723961893:=0
def tw15632762820072723640:=0
def tw2026334002101371230:=0
def tw8270239428412854535:=0
def tw3493881390435256397:=0
def tw16741001174836528033:=0
def tw8167252483079301385:=0
def tw4415229133734862244:=0
def tw12965421673464508262:=0
def tw3070821613802338058:=0
def tw1628554315119450301:=0
def tw1253653739241062745:=0
def tw17773616568681399227:=0
def tw4966031860061912353:=0
def tw8390891386468738210:=0
def tw14723848086388773615:=0
def tw13418932329434570688:=0
def tw9175610629404004378:=0
def tw14779302902730886392:=0
def tw6189242603902326148:=0
def tw4178993967646449898:=0
def tw5363309218778129711:=0
def tw16848594798669258239:=0
def tw5319537908131485459:=0
def tw3931979183401559454:=0
def tw15747895216076385827:=0
def tw18175049965104108686:=0
def tw6161328221152604868:=0
def tw7925872369670477552:=0
def tw5147684718314882680:=0
def tw9148285113403151551:=0
def tw6976647112982521499:=0
def tw8118273653091861233:=0
def tw18172372211633634662:=0
def tw15452872016571569597:=0
def tw15305913754415155889:=0
def tw4305233193055263409:=0
def tw1242710737452555969:=0
def tw3816299379612134185:=0
def tw14106236935652749525:=0
def tw15687950703042685445:=0
def tw15944794423408385735:=0
def tw6119454370147234688:=0
def tw11290630793245403377:=0
def tw11756600793590621615:=0
def tw2897285149353504990:=0
def tw12930647775762697540:=0
def tw7631665490955916484:=0
def tw13731800033713384011:=0
def tw3891586303243879689:=0
def tw8434766152194525016:=0
def tw15720366326444582641:=0
def tw16126071291763460766:=0
def tw9631385684976875965:=0
def tw3112060406156507751:=0
def tw12767834669136890030:=0
def tw3046712207242474583:=0
def tw14943525250793117309:=0
def tw2951051521331738660:=0
def tw12350067106611182179:=0
def tw145446966506913487:=0
def tw4433607708215266518:=0
def tw10005210913032604624:=0
def tw17644908498595894636:=0
def tw2259006784446389053:=0
def tw3359559418358650818:=0
def tw18236381705199725086:=0
def tw8590888090033032753:=0
def tw4654902981118241116:=0
def tw12728939377163062334:=0
def tw12610905917434735635:=0
def tw13017169840289375297:=0
def tw17846590810358638895:=0
def tw15302656742490680798:=0
def tw4191916708591130503:=0
def tw6733556099104881087:=0
def tw1788629404047505057:=0
def tw1421643580248718088:=0
def tw9904746314354454286:=0
def tw8382487383360734365:=0
def tw5414198201689844854:=0
def tw17732346642165269353:=0
def tw12652670774202118088:=0
def tw4035850646553961980:=0
def tw13194434123148467915:=0
def tw7322720699188175142:=0
def tw4394468875304718477:=0
def tw10494639109366210125:=0
def tw2124359744620626036:=0
def tw8237382181446257350:=0
def tw5981442084033409423:=0
def tw10923740633542320959:=0
def tw13893784132103743648:=0
def tw17541951259237005690:=0
def tw16397558535900669840:=0
def tw18035642105162988529:=0
def tw5402997158681872635:=0
def tw7953907593206777369:=0
def tw11444949368670154268:=0
def tw12421518270936931268:=0
def tw14824818868225561315:=0
def tw16189499019431160198:=0
def tw1224471419253458388:=0
def tw15173850989071168320:=0
def tw10100544590146409461:=0
def tw1507389058779809615:=0
def tw13536095102809539677:=0
def tw10067329714573646738:=0
def tw10958565075523305747:=0
def tw653469797818955481:=0
def tw10113340814057872302:=0
def tw6078901093429002288:=0
def tw3714679956423484882:=0
def tw8011420819281023059:=0
def tw10323351371415735027:=0
def tw16112357324845601407:=0
def tw3688056598388635950:=0
def tw2914733528148792743:=0
def tw12688130081288992318:=0
def tw13637668287196044363:=0
def tw8562313178772738633:=0
def tw6827124504808753176:=0
def tw6169477189602128159:=0
def tw14598225199396667358:=0
def tw1661186637598994767:=0
def tw9966034048260351287:=0
def tw12693966551375742899:=0
def tw12858567130323827341:=0
def tw4562203012197474215:=0
def tw11930475582758734380:=0
def tw12918412601715271518:=0
def tw7608108599629993463:=0
def tw13684126932663887453:=0
def tw1768104563120999503:=0
def tw14633543105035573081:=0
def tw18040013864284875408:=0
def tw981253375582730143:=0
def tw17324235382462188039:=0
def tw11396229839222155612:=0
def tw14720591514823067649:=0
def tw1839309111948047737:=0
def tw10649642255583448899:=0
def tw453792385448919619:=0
def tw14016117505424672053:=0
def tw10087890274779830103:=0
def tw826740772489311951:=0
def tw8644974511400997740:=0
def tw9730023135192962341:=0
def tw11353875875174838068:=0
def tw12319534522331654397:=0
def tw4395600470188150127:=0
def tw18440896918259042233:=0
def tw9228441212572215233:=0
def tw2211806331200545591:=0
def tw4812580710605279442:=0
def tw3516669590164527243:=0
def tw12974200953483125586:=0
end PySem.W.Fast
open PySem PySem.W PyProof.Rows
set_option maxRecDepth 100000 in
set_option maxHeartbeats 0 in
theorem PySem.Challenge.cw_toldtale_s01_answers_holds : PySem.Challenge.rw_toldtale_s01_answers.Holds := by
  w_on; k_headS
  (case hw => exact ⟨[.list [.int 0, .int 0]], by decide +kernel, by decide +kernel⟩)
  k_fillS
  refine Tp.walk rfl (fun w h Y => PySem.W.kIn_of Y) ?F
  case F =>
    intro w mg fa h KX G hmg
    refine' Tp.ZvT KX G hmg ?_ ?_ ?_ ?_ ?_ ?_ ?_ ?_ ?_ ?_ ?_ ?_ ?_ ?_ ?_ ?_ ?_ ?_ ?_ ?_ ?_ ?_ ?_ ?_ ?_ ?_ ?_ ?_ ?_ ?_ ?_ ?_ ?_ ?_ ?_ ?_ ?_ ?_ ?_ ?_ ?_ ?_ ?_ ?_ ?_ ?_ ?_ ?_ ?_ ?_ ?_ ?_ ?_ ?_ ?_ ?_ ?_ ?_ ?_ ?_ ?_ ?_ ?_ ?_ ?_ ?_ ?_ ?_ ?_ ?_ ?_ ?_ ?_ ?_ ?_ ?_ ?_ ?_ ?_ ?_ ?_ ?_ ?_ ?_ ?_ ?_ ?_ ?_ ?_ ?_ ?_ ?_ ?_ ?_ ?_ ?_ ?_ ?_ ?_ ?_ ?_ ?_ ?_ ?_ ?_ ?_ ?_ ?_ ?_ ?_ ?_ ?_ ?_ ?_ ?_ ?_ ?_ ?_ ?_ ?_ ?_ ?_ ?_ ?_ ?_ ?_ ?_ ?_ ?_ ?_ ?_ ?_ ?_ ?_ ?_ ?_ ?_ ?_ ?_ ?_ ?_ ?_ ?_ ?_ ?_ ?_ ?_ ?_ ?_ ?_ ?_ ?_ ?_ ?_ ?_ ?_ ?_ ?_ ?_ ?_ ?_ ?_ ?_ ?_ ?_ ?_ ?_ ?_ ?_ ?_ ?_ ?_ ?_ ?_ ?_
    any_goals first
      | k_is
      | (refine' PySem.W.mg_of KX G ?a; (case a => k_is))
      | (refine' PySem.W.mg_none_of KX G ?a; (case a => k_is))
      | (refine' Tp.GI.of KX G ?a; (case a => k_is))
      | (refine' Tp.Zj.of KX G ?a ?l ?c ?k; (case a => k_is); (case l => k_is); (case c => k_is); (case k => k_is))
      | (refine' Tp.MethAt.of ?a ?i ?l ?c ?k; (case a => k_is); (case i => k_is); (case l => k_is); (case c => k_is); (case k => k_is))
      | (refine' Tp.Zv.of ?a ?b ?c ?d ?e; (case a => k_is); (case b => k_is); (case c => k_is); (case d => k_is); (case e => kernel_rfl))
      | (refine' Tp.XT.of KX G ?a ?b; (case a => k_is); (case b => kernel_rfl))
      | (refine' Tp.GS.of KX G ?a; (case a => k_is))
      | (refine' Tp.ZsF (by decide) ?a; (case a => k_is))
      | (refine' Tp.Ze5.ZvS ?a; (case a => k_is))
      | kernel_rfl
