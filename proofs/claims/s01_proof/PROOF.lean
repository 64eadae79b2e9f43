import PyProof.Rows.All
import Wide.All
import OpenK.AllK
import Wide.FinOn
import PyProof.EqAt
import PyProof.EqKinds
import PyProof.TupleCall
import KE.BitLaws
import Open.SpecLaws
import KE.OsHead
import KE.OsGo
import PyProof.StationsW
import PyProof.RulesAs
import PyProof.NsDelKeeps
import PyProof.ExcInit
import PyProof.ExcBaseAll.ValueError
import PyProof.ExcBaseAll.Exception
import OpenK.KOwn
import PyProof.ExcArgsOwn
import PyProof.InstStoreFacts
import WqataeSpec
import PyWqatae
import PyFlatLaws
import PySem.Challenge.RW_escapedplaces_s01_answers
set_option Elab.async false
set_option linter.all false
set_option maxRecDepth 100000
set_option maxHeartbeats 2000000
namespace L2
open PySem PySem.Spec PyProof.Rows
abbrev Key:=Sum Int Str
def xE:Key→Value→Bool
 |.inl k,v=>Value.isInt k v
 |.inr x,v=>Value.isStrOf x v
def Lb(w:World):Key→Int
 |.inl k=>hashInt k
 |.inr x=>hashStr w x
theorem cA:∀{k:Key}{v:Value},xE k v=true→(∃i t,k=Sum.inl i∧v=Value.int i t)∨(∃x t,k=Sum.inr x∧v=Value.str x t)
 |.inl i,v,h=>by
  obtain⟨t,e⟩:=Value.isInt_shape (k:=i) (v:=v) h;exact .inl ⟨i,t,rfl,e⟩
 |.inr x,v,h=>by
  obtain⟨t,e⟩:=Value.isStrOf_shape (x:=x) (v:=v) h;exact .inr ⟨x,t,rfl,e⟩
theorem C2(i:Int)(t:Tok):xE (.inl i) (.int i t)=true:=by simp[xE,Value.isInt]
theorem C1(x:Str)(t:Tok):xE (.inr x) (.str x t)=true:=by simp[xE,Value.isStrOf]
theorem IH(a b:Int):decide ((Sum.inl a:Key)=Sum.inl b)=(a==b):=by
 by_cases e:a=b
 ·subst e;simp
 ·have h:¬(Sum.inl a:Key)=Sum.inl b:=λq=>e (Sum.inl.inj q);rw[decide_eq_false h];exact(beq_eq_false_iff_ne.mpr e).symm
theorem IE(a b:Str):decide ((Sum.inr a:Key)=Sum.inr b)=decide (a=b):=by
 by_cases e:a=b
 ·subst e;simp
 ·have h:¬(Sum.inr a:Key)=Sum.inr b:=λq=>e (Sum.inr.inj q);rw[decide_eq_false h,decide_eq_false e]
theorem IG(a:Int)(b:Str):decide ((Sum.inl a:Key)=Sum.inr b)=false:=decide_eq_false (λq=>nomatch q)
theorem IF(a:Str)(b:Int):decide ((Sum.inr a:Key)=Sum.inl b)=false:=decide_eq_false (λq=>nomatch q)
def cM(prog:Program)(w:World):PySem.KeyKind prog w Key where
 is:=xE
 hash:=Lb w
 inj:=λv a b ha hb=>by
  rcases cA ha with⟨i,t,rfl,rfl⟩|⟨x,t,rfl,rfl⟩
  ·rcases cA hb with⟨j,u,rfl,e⟩|⟨y,u,rfl,e⟩
   ·injection e with e1 _;rw[e1]
   ·exact nomatch e
  ·rcases cA hb with⟨j,u,rfl,e⟩|⟨y,u,rfl,e⟩
   ·exact nomatch e
   ·injection e with e1 _;rw[e1]
 byValue:=λk v h=>by
  rcases cA h with⟨i,t,rfl,rfl⟩|⟨x,t,rfl,rfl⟩<;>rfl
 pyHash:=λhv h=>by
  rcases cA hv with⟨i,t,rfl,rfl⟩|⟨x,t,rfl,rfl⟩
  ·exact wpAny_pyHash_int h
  ·exact wpAny_pyHash_str h
 eqBool:=λhu hv h=>by
  rcases cA hu with⟨i,t,rfl,rfl⟩|⟨x,t,rfl,rfl⟩
  ·rcases cA hv with⟨j,u,rfl,rfl⟩|⟨y,u,rfl,rfl⟩
   ·rw[IH]at h;exact wpAny_eqBool_int h
   ·rw[IG]at h;exact SeqAt.EqAt.int_str i t y u _ _ _ _ h
  ·rcases cA hv with⟨j,u,rfl,rfl⟩|⟨y,u,rfl,rfl⟩
   ·rw[IF]at h;exact SeqAt.EqAt.str_int x t j u _ _ _ _ h
   ·rw[IE]at h;exact wpAny_eqBool_str h
 «strs»:=λk x t v h=>by
  rcases cA h with⟨i,u,rfl,e⟩|⟨y,u,rfl,e⟩
  ·exact nomatch e
  ·injection e with e1 _
   subst e1;cases v<;>rfl
theorem zM(prog:Program)(w:World)(i:Int)(t:Tok):(cM prog w).is (.inl i) (.int i t)=true:=C2 i t
theorem zL(prog:Program)(w:World)(x:Str)(t:Tok):(cM prog w).is (.inr x) (.str x t)=true:=C1 x t
inductive V where
 |non|bl (b:Bool)|int (i:Int)|str (x:Str)|byt (b:Array UInt8)|flt (b:UInt64)|ref (a:Addr)|ty (n:String)
 deriving DecidableEq
def RelV:V→Value→Prop
 |.non,u=>u=Value.none
 |.bl b,u=>u=Value.bool b
 |.int i,u=>∃t,u=Value.int i t
 |.str x,u=>∃t,u=Value.str x t
 |.byt b,u=>∃t,u=Value.bytes b t
 |.flt b,u=>∃t,u=Value.float b t
 |.ref a,u=>u=Value.ref a
 |.ty n,u=>u=Value.type n
abbrev Vals:List V→List Value→Prop:=Paired RelV
theorem Vals.length{xs:List V}{us:List Value}(r:Vals xs us):xs.length=us.length:=Paired.length r
theorem Vals.get:∀{xs:List V}{us:List Value}{i:Nat}{x:V},Vals xs us→xs[i]?=some x→∃u,us[i]?=some u∧RelV x u
 |_,_,_,_,.nil,e=>by simp at e
 |_,_,0,_,.cons r _,e=>by simp at e;subst e;exact⟨_,rfl,r⟩
 |_,_,i+1,x,.cons _ t,e=>by
  obtain⟨u,h1,h2⟩:=Vals.get (i:=i) (x:=x) t (by simpa using e)
  exact⟨u,by simpa using h1,h2⟩
theorem Vals.append:∀{xs ys:List V}{us ws:List Value},Vals xs us→Vals ys ws→Vals (xs++ys) (us++ws)
 |_,_,_,_,.nil,s=>s
 |_,_,_,_,.cons r t,s=>.cons r (Vals.append t s)
theorem Vals.take:∀{xs:List V}{us:List Value}(n:Nat),Vals xs us→Vals (xs.take n) (us.take n)
 |_,_,0,_=>.nil
 |_,_,_+1,.nil=>.nil
 |_,_,n+1,.cons r t=>.cons r (Vals.take n t)
theorem Vals.drop:∀{xs:List V}{us:List Value}(n:Nat),Vals xs us→Vals (xs.drop n) (us.drop n)
 |_,_,0,r=>r
 |_,_,_+1,.nil=>.nil
 |_,_,n+1,.cons _ t=>Vals.drop n t
def lJ:Option V→Option Value→Prop
 |some v,some u=>RelV v u
 |none,none=>True
 |_,_=>False
def KV{κ:Type}:List (κ×V)→List (κ×Value)→Prop:=Paired λ(p:κ×V)(q:κ×Value)=>p.1=q.1∧RelV p.2 q.2
def kV:Key→V
 |.inl i=>.int i
 |.inr x=>.str x
inductive HO where
 |lst (xs:List V)
 |tup (xs:List V)
 |dK (kvs:List (Key×V))|dT (kvs:List (List Key×V))
 |set (S:Int→Bool) (n:Nat)
 |ins (C dx:Addr) (fs:List (Str×V))
 |own (x:Addr)
 |xd (fs:List (Str×V))
 |met (f x:Addr)
 |rng (lo hi:Int)
 |frz (o:Obj) (u:HO)
 |tbl (ps:Array Value)
 |ext (φ:Heap→Prop)
abbrev Hp:=Addr→Option HO
def upd(H:Hp)(a:Addr)(o:HO):Hp:=λb=>if b=a then some o else H b
theorem af{H:Hp}{a:Addr}{o:HO}:upd H a o a=some o:=by unfold upd;rw[if_pos rfl]
theorem ae{H:Hp}{a b:Addr}{o:HO}(h:b≠a):upd H a o b=H b:=by unfold upd;rw[if_neg h]
theorem fN{H:Hp}{a:Addr}{o u:HO}:upd (upd H a o) a u=upd H a u:=by
 funext b;unfold upd;split<;>rfl
theorem aF{H:Hp}{a b:Addr}{o u:HO}(h:H a=some o)(h':H b=some u)(d:o≠u):a≠b:=by
 intro e;subst e;rw[h]at h';exact d (Option.some.inj h')
theorem aw{H:Hp}{a b:Addr}{o:HO}(h:H a=some o)(h':H b=none):a≠b:=by
 intro e;subst e;rw[h]at h';cases h'
section
variable (P:Program)(w:World)
def bM(H:Hp)(h:Heap)(a:Addr):HO→Prop
 |.lst xs=>xs.length≤sizeLine∧∃(its:List Value)(n:Nat),Vals xs its∧h.get? a=some {cls:=.type "list",data:=.seq its.toArray n}
 |.tup xs=>xs.length≤sizeLine∧∃its:List Value,Vals xs its∧IsTup h a its.toArray
 |.dK kvs=>kvs.length≤sizeLine∧(a==sysModules)=false∧∃vs,KV kvs vs∧h.DictOf (cM P w) a vs
 |.dT kvs=>kvs.length≤sizeLine∧(a==sysModules)=false∧∃xs:List (List Key×Addr×Value),
   Paired (λ(p:List Key×V)(q:List Key×Addr×Value)=>p.1=q.1∧H q.2.1=some (.tup (p.1.map kV))∧RelV p.2 q.2.2) kvs xs∧
   ∃o es ep,h.get? a=some o∧o.ExactDict∧o.data=.dict es ep∧es.toList=xs.map (entryOfKey (tupleKind (cM P w)))∧(xs.map (·.1)).Nodup
 |.set S n=>h.SetOf (intKind P w) a S n
 |.ins C dx fs=>H dx=some (.own a)∧fs.length≤1000∧dx≠a∧h.get? a=some (PySem.W.instObj C dx)∧
   ∃mA,h.Ns1 dx mA∧(∀f,lJ (fs.lookup f) (mA f))∧PySem.Within mA (fs.map (·.1))
 |.own _=>∃o,h.get? a=some o
 |.xd fs=>∃mA,h.Ns1 a mA∧∀f,lJ (fs.lookup f) (mA f)
 |.rng lo hi=>∃t u v,h.get? a=some {cls:=.type "range",data:=.fields #[.int lo t,.int hi u,.int 1 v]}
 |.frz o u=>h.get? a=some o∧bM H h a u
 |.tbl ps=>h.get? a=some {cls:=.none,data:=.fields ps}
 |.met f x=>h.get? a=some (PySem.W.methodObj (.ref f) (.ref x))
 |.ext φ=>φ h∧(∃o,h.get? a=some o)∧∀h1 h2:Heap,φ h1→(∀o,h1.get? a=some o→h2.get? a=some o)→φ h2
def HOk(H:Hp)(h:Heap):Prop:=∀a o,H a=some o→bM P w H h a o
end
section
variable {P:Program}{w:World}{H H':Hp}{h h':Heap}{a:Addr}{o:HO}
theorem bM.lt(x:bM P w H h a o):a<h.objs.size:=by
 cases o with
 |lst xs=>obtain⟨_,_,_,_,e⟩:=x;exact Heap.lt_size e
 |tup xs=>obtain⟨_,_,_,p⟩:=x;exact p.lt
 |dK kvs=>obtain⟨_,_,_,_,o,_,_,e,_⟩:=x;exact Heap.lt_size e
 |dT kvs=>obtain⟨_,_,_,_,o,_,_,e,_⟩:=x;exact Heap.lt_size e
 |set S n=>obtain⟨o,_,_,_,e,_⟩:=x;exact Heap.lt_size e
 |ins C dx fs=>obtain⟨_,_,_,e,_⟩:=x;exact Heap.lt_size e
 |own y=>obtain⟨_,e⟩:=x;exact Heap.lt_size e
 |xd fs=>obtain⟨_,⟨_,_,_,e,_⟩,_⟩:=x;exact Heap.lt_size e
 |rng lo hi=>obtain⟨_,_,_,e⟩:=x;exact Heap.lt_size e
 |frz ob u=>obtain⟨e,_⟩:=x;exact Heap.lt_size e
 |tbl ps=>exact Heap.lt_size (show h.get? a=some _ from x)
 |met f y=>exact Heap.lt_size (show h.get? a=some _ from x)
 |ext φ=>obtain⟨_,⟨_,e⟩,_⟩:=x;exact Heap.lt_size e
theorem Paired.IC{α β:Type}{F G:α→β→Prop}:∀{l₁:List α}{l₂:List β},Paired F l₁ l₂→(∀a b,F a b→G a b)→Paired G l₁ l₂
 |_,_,.nil,_=>.nil
 |_,_,.cons r t,f=>.cons (f _ _ r) (Paired.IC t f)
theorem bM.rn(x:bM P w H h a o)(k:∀b u,(b=a∨H b=some (.own a))→h.get? b=some u→h'.get? b=some u)
  (ho:∀b,H b=some (.own a)→H' b=some (.own a))(ht:∀b xs,H b=some (.tup xs)→H' b=some (.tup xs)):bM P w H' h' a o:=by
 induction o with
 |lst xs=>obtain⟨z,its,n,r,e⟩:=x;exact⟨z,its,n,r,k _ _ (.inl rfl) e⟩
 |tup xs=>obtain⟨z,its,r,ob,e,c⟩:=x;exact⟨z,its,r,ob,k _ _ (.inl rfl) e,c⟩
 |dK kvs=>obtain⟨z,y,vs,r,ob,es,ep,e,c⟩:=x;exact⟨z,y,vs,r,ob,es,ep,k _ _ (.inl rfl) e,c⟩
 |dT kvs=>
  obtain⟨z,y,xs,r,ob,es,ep,e,c⟩:=x;exact⟨z,y,xs,Paired.IC r λp q z=>⟨z.1,ht _ _ z.2.1,z.2.2⟩,ob,es,ep,k _ _ (.inl rfl) e,c⟩
 |set S n=>obtain⟨ob,es,ep,t,e,c⟩:=x;exact⟨ob,es,ep,t,k _ _ (.inl rfl) e,c⟩
 |ins C dx fs=>
  obtain⟨d,z,ne,e,mA,⟨od,es,ep,e2,c⟩,r⟩:=x;exact⟨ho _ d,z,ne,k _ _ (.inl rfl) e,mA,⟨od,es,ep,k _ _ (.inr d) e2,c⟩,r⟩
 |own y=>obtain⟨ob,e⟩:=x;exact⟨ob,k _ _ (.inl rfl) e⟩
 |xd fs=>obtain⟨mA,⟨od,es,ep,e,c⟩,r⟩:=x;exact⟨mA,⟨od,es,ep,k _ _ (.inl rfl) e,c⟩,r⟩
 |rng lo hi=>obtain⟨t,u,v,e⟩:=x;exact⟨t,u,v,k _ _ (.inl rfl) e⟩
 |frz ob u ih=>obtain⟨e,q⟩:=x;exact⟨k _ _ (.inl rfl) e,ih q⟩
 |tbl ps=>
  have e:h.get? a=some {cls:=.none,data:=.fields ps}:=x;show h'.get? a=some {cls:=.none,data:=.fields ps};exact k a _ (.inl rfl) e
 |met f y=>
  have e:h.get? a=some (PySem.W.methodObj (.ref f) (.ref y)):=x;show h'.get? a=some (PySem.W.methodObj (.ref f) (.ref y));exact k a _ (.inl rfl) e
 |ext φ=>obtain⟨p,⟨o,e⟩,st⟩:=x;exact⟨st _ _ p λo q=>k _ _ (.inl rfl) q,⟨o,k _ _ (.inl rfl) e⟩,st⟩
theorem HOk.lt(x:HOk P w H h)(e:H a=some o):a<h.objs.size:=(x a o e).lt
theorem HOk.fresh(x:HOk P w H h)(e:h.objs.size≤a):H a=none:=by
 cases q:H a with
 |none=>rfl
 |some u=>exact absurd (Nat.lt_of_lt_of_le (x.lt q) e) (Nat.lt_irrefl _)
theorem HOk.kept(x:HOk P w H h)(k:∀b u,h.get? b=some u→h'.get? b=some u):HOk P w H h':=λa o e=>
 (x a o e).rn (λb u _ q=>k b u q) (λ_ q=>q) λ_ _ q=>q
theorem HOk.laid(x:HOk P w H h)(k:∀b u,h.get? b=some u→h'.get? b=some u)(hp:h.objs.size≤a)(new:bM P w (upd H a o) h' a o):HOk P w (upd H a o) h':=λb u e=>by
 have hn:=x.fresh hp
 by_cases hb:b=a
 ·subst hb;rw[af]at e;cases e;exact new
 ·rw[ae hb]at e;exact(x b u e).rn (λc v _ q=>k c v q) (λc q=>by rw[ae (aw q hn)];exact q) λc xs q=>by rw[ae (aw q hn)];exact q
end
def Rd(H:Hp)(a:Addr)(u:HO):Prop:=H a=some u∨∃o,H a=some (.frz o u)
theorem Rd.ok{P:Program}{w:World}{H:Hp}{h:Heap}{a:Addr}{u:HO}(r:Rd H a u)(x:HOk P w H h):bM P w H h a u:=by
 rcases r with r|⟨o,r⟩
 ·exact x a u r
 ·obtain⟨_,q⟩:=x a _ r;exact q
def Mut:Option HO→Prop
 |some (.lst _)=>True
 |some (.dK _)=>True
 |some (.dT _)=>True
 |some (.set _ _)=>True
 |some (.ins _ _ _)=>True
 |some (.ext _)=>True
 |_=>False
section
variable {P:Program}{w:World}{H:Hp}{h h':Heap}{x e:Addr}{o':HO}
theorem HOk.write(ok:HOk P w H h)(mu:Mut (H x))(he:e=x∨H e=some (.own x))(k:∀b u,b≠e→h.get? b=some u→h'.get? b=some u)(heo:∃u,h'.get? e=some u)
  (new:bM P w (upd H x o') h' x o'):HOk P w (upd H x o') h':=λb u q=>by
 have nown:∀c y,H c=some (.own y)→c≠x:=λc y r z=>by subst z;rw[r]at mu;exact mu
 have ntup:∀c xs,H c=some (.tup xs)→c≠x:=λc xs r z=>by subst z;rw[r]at mu;exact mu
 by_cases hb:b=x
 ·subst hb;rw[af]at q;cases q;exact new
 ·rw[ae hb]at q
  by_cases hbe:b=e
  ·have q':H b=some (.own x):=by
    rcases he with z|z
    ·exact absurd (hbe.trans z) hb
    ·rw[hbe];exact z
   rw[q]at q';cases q';obtain⟨v,hv⟩:=heo;exact⟨v,by rw[hbe];exact hv⟩
  ·refine(ok b u q).rn (λc v hc r=>k c v ?_ r) (λc r=>by rw[ae (nown c b r)];exact r) λc xs r=>by rw[ae (ntup c xs r)];exact r
   rcases hc with rfl|hc
   ·exact hbe
   ·rintro rfl;rcases he with z|z
    ·exact nown c b hc z
    ·rw[hc]at z;cases z;exact hb rfl
end
structure Un(fs ex:List Addr)(H H':Hp)(h h':Heap):Prop where
 keep:∀b o,h.get? b=some o→H b=none→b∉fs→b∉ex→h'.get? b=some o
 slot:∀b o,h.get? b=some o→H b=none→b∈fs→b∉ex→∃sl,h'.get? b=some {o with slots:=sl}
 free:∀b o,h.get? b=some o→H b=none→b∉ex→H' b=none
 there:∀b o,h.get? b=some o→b∉ex→∃o',h'.get? b=some o'
 qz:∀b xs,H b=some (.tup xs)→H' b=some (.tup xs)
 oJ:∀b o u,H b=some (.frz o u)→H' b=some (.frz o u)
 qB:∀b ps,H b=some (.tbl ps)→∃more,H' b=some (.tbl (ps++more))
section
variable {fs fs' ex ex':List Addr}{H H1 H2:Hp}{h h1 h2 h':Heap}{a x e:Addr}{o:HO}
theorem Un.any(u:Un fs ex H H1 h h1){b:Addr}{ob:Obj}(q:h.get? b=some ob)(n:H b=none)(hx:b∉ex):∃sl,h1.get? b=some {ob with slots:=sl}:=by
 by_cases hb:b∈fs
 ·exact u.slot b ob q n hb hx
 ·exact⟨ob.slots,u.keep b ob q n hb hx⟩
theorem Un.kept(k:∀b u,h.get? b=some u→h'.get? b=some u):Un fs ex H H h h':=
 ⟨λb ob q _ _ _=>k b ob q,λb ob q _ _ _=>⟨ob.slots,k b ob q⟩,λ_ _ _ n _=>n,λb ob q _=>⟨ob,k b ob q⟩,λ_ _ q=>q,λ_ _ _ q=>q,λ_ ps q=>⟨#[],by rw[q];simp⟩⟩
theorem Un.refl:Un fs ex H H h h:=Un.kept λ_ _ q=>q
theorem Un.laid(k:∀b u,h.get? b=some u→h'.get? b=some u)(hp:h.objs.size≤a)(hn:H a=none):Un fs ex H (upd H a o) h h' where
 keep:=λb u q _ _ _=>k b u q
 slot:=λb u q _ _ _=>⟨u.slots,k b u q⟩
 free:=λb u q n _=>by rw[ae (Nat.ne_of_lt (Nat.lt_of_lt_of_le (Heap.lt_size q) hp))];exact n
 there:=λb u q _=>⟨u,k b u q⟩
 qz:=λb xs q=>by rw[ae (aw q hn)];exact q
 oJ:=λb u xs q=>by rw[ae (aw q hn)];exact q
 qB:=λb ps q=>⟨#[],by rw[ae (aw q hn),q];simp⟩
theorem Un.write(mu:Mut (H x))(he:e=x∨H e=some (.own x))(k:∀b u,b≠e→h.get? b=some u→h'.get? b=some u)(heo:∃u,h'.get? e=some u):Un fs ex H (upd H x o) h h':=by
 have hx:∀b,H b=none→b≠x:=λb n z=>by subst z;rw[n]at mu;exact mu
 have hb:∀b,H b=none→b≠e:=λb n z=>by
  subst z;rcases he with r|r
  ·exact hx b n r
  ·rw[n]at r;cases r
 have hm:∀b u,H b=some u→¬Mut (some u)→b≠x:=λb u q nm z=>by subst z;rw[q]at mu;exact nm mu
 refine⟨λb u q n _ _=>k b u (hb b n) q,λb u q n _ _=>⟨u.slots,k b u (hb b n) q⟩,λb u q n _=>by rw[ae (hx b n)];exact n,λb u q _=>?_,
  λb xs q=>by rw[ae (hm b _ q λz=>z)];exact q,λb u xs q=>by rw[ae (hm b _ q λz=>z)];exact q,λb ps q=>⟨#[],by rw[ae (hm b _ q λz=>z),q];simp⟩⟩
 by_cases hbe:b=e
 ·subst hbe;exact heo
 ·exact⟨u,k b u hbe q⟩
end
def trk(h:Heap)(H:Hp):List Addr:=(List.range h.objs.size).filter λa=>(H a).isSome
def yM(h:Heap)(H:Hp):Heap:=PySem.W.hideAll h (trk h H)
theorem C6(h:Heap)(H:Hp):(yM h H).objs.size=h.objs.size:=PySem.W.hideAll_size _ _
theorem EE{h:Heap}{H:Hp}{b:Addr}{o:Obj}(e:h.get? b=some o)(n:H b=none):(yM h H).get? b=some o:=
 PySem.W.hideAll_get _ e λhm=>by
  have q:(H b).isSome=true:=(List.mem_filter.mp hm).2;rw[n]at q;simp at q
theorem F6{h:Heap}{H:Hp}{b:Addr}{o:Obj}(e:(yM h H).get? b=some o):h.get? b=some o∧H b=none:=by
 have e':h.get? b=some o:=PySem.W.of_hideAll (trk h H) e;refine⟨e',?_⟩;cases q:H b with
 |none=>rfl
 |some x=>
  have hm:b∈trk h H:=List.mem_filter.mpr ⟨List.mem_range.mpr (Heap.lt_size e'),by simp[q]⟩
  have z:(yM h H).get? b=none:=PySem.W.hideAll_none (trk h H) hm;rw[z]at e;cases e
structure Mod(K:PySem.W.Frag)(mg:Str→Option Value)(base:Heap):Prop where
 kin:K.In base
 glob:base.Ns mainGlobals mg
 blt:∃mb,base.Ns builtinsNs mb∧∀x:Str,x≠"__name__"→mb x=bootBuiltins x
 nolimit:base.NoLimit
structure Cx where
 prog:Program
 w:World
 K:PySem.W.Frag
 mg:Str→Option Value
 base:Heap
 A:Around
 N:List Str
 s_0:Shared
 H_0:Hp
 env:Env
 outer:List Env
 stack:List Env
 ex:List Addr
 fn:Str→Bool
 calm:Bool
 pn:List (Addr×Obj)
 xe:Value→Shared→Prop
def frs(l:List Env):List Addr:=l.filterMap (·.frame)
abbrev Cx.fs(X:Cx):List Addr:=frs X.outer
def Vis(sc:Scope)(x:Str):Prop:=sc.names.lookup x=some .local∨sc.names.lookup x=some .cell∨sc.names.lookup x=some .free
def Loc(sc:Scope)(x:Str):Prop:=sc.names.lookup x=some .local∨sc.names.lookup x=some .cell
def Look(env:Env)(h:Heap)(m:Str→Option Value)(x:Str)(u:Value):Prop:=
 (env.kindOf x=some .local∧m x=some u)∨((env.kindOf x=some .cell∨env.kindOf x=some .free)∧∃c,env.cells.lookup x=some c∧h.IsCell c (some u))
structure Cx.Ok(X:Cx):Prop where
 mod:Mod X.K X.mg X.base
 kind:X.env.scope.kind=.function
 glob:X.env.globals=mainGlobals
 blt:X.env.builtins=builtinsNs
 above:X.s_0.heap.objs.size≤X.env.locals
 inj:∀x y c,X.env.cells.lookup x=some c→X.env.cells.lookup y=some c→x=y
 has:∀x,(X.env.kindOf x=some .cell∨X.env.kindOf x=some .free)→∃c,X.env.cells.lookup x=some c
 cab:∀x c,X.fn x=true→X.env.cells.lookup x=some c→X.s_0.heap.objs.size≤c
 hd:X.calm=true→X.A.handled=none
 frames:X.A.frames=some X.stack
 stk:X.stack=X.outer∨(X.stack=X.env::X.outer∧X.env.frame=some X.env.locals)
 exf:∀b∈X.ex,b≠X.env.locals∧∀x c,X.env.cells.lookup x=some c→c≠b
 bs:∀b o,X.base.get? b=some o→X.s_0.heap.get? b=some o∧X.H_0 b=none
 bsz:X.base.objs.size≤X.s_0.heap.objs.size
 AR:∀b o,X.base.get? b=some o→b∉X.ex
 Bg:∀b∈X.ex,b∉X.fs
 sr:X.s_0.heap.FunFrames X.base X.outer
 frf:∀b∈X.fs,X.H_0 b=none
structure Inv(X:Cx)(pins:List (Addr×Obj))(σ:List (Option V))(H:Hp)(s:Shared):Prop where
 ok:X.Ok
 os:s.os=X.s_0.os
 bare:AllBare s.gens
 base:Un X.fs X.ex X.H_0 H X.s_0.heap s.heap
 loc:∃m,s.heap.Ns X.env.locals m∧∀(i:Nat)(x:Str)(v:V),X.N[i]?=some x→σ[i]?=some (some v)→Vis X.env.scope x→∃u,RelV v u∧Look X.env s.heap m x u
 cell:∀x c,X.env.cells.lookup x=some c→∃v,s.heap.IsCell c v
 free:H X.env.locals=none
 gu:∀x c,X.env.cells.lookup x=some c→H c=none
 pin:∀p∈X.pn++pins,s.heap.get? p.1=some p.2∧H p.1=none∧p.1≠X.env.locals∧p.1∉X.fs∧∀v,p.2.data≠.cell v
 hok:HOk X.prog X.w H s.heap
 len:σ.length=X.N.length
section
variable {X:Cx}{pins:List (Addr×Obj)}{σ:List (Option V)}{H H':Hp}{s:Shared}{h':Heap}
theorem Cx.Ok.K9(ok:X.Ok){b:Addr}{o:Obj}(e:X.base.get? b=some o):b∉X.fs:=λhb=>by
 have:=(ok.sr.mem hb).1;rw[e]at this;cases this
theorem Inv.bs(I:Inv X pins σ H s):∀b o,X.base.get? b=some o→s.heap.get? b=some o∧H b=none:=λb o e=>
 ⟨I.base.keep b o (I.ok.bs b o e).1 (I.ok.bs b o e).2 (I.ok.K9 e) (I.ok.AR b o e),I.base.free b o (I.ok.bs b o e).1 (I.ok.bs b o e).2 (I.ok.AR b o e)⟩
theorem Inv.bk(I:Inv X pins σ H s):∀b o,X.base.get? b=some o→s.heap.get? b=some o:=λb o e=>(I.bs b o e).1
theorem Inv.mod(I:Inv X pins σ H s):Mod X.K X.mg X.base:=I.ok.mod
theorem Inv.kIn(I:Inv X pins σ H s):X.K.In s.heap:=I.ok.mod.kin.keeps I.bk
theorem Inv.lt(I:Inv X pins σ H s):X.env.locals<s.heap.objs.size:=let⟨_,hn,_⟩:=I.loc;hn.lt
theorem Inv.sz(I:Inv X pins σ H s):X.s_0.heap.objs.size≤s.heap.objs.size:=Nat.le_trans I.ok.above (Nat.le_of_lt I.lt)
theorem Inv.K8(I:Inv X pins σ H s){a:Addr}(h:s.heap.objs.size≤a):a∉X.fs:=λhb=>by
 obtain⟨_,o,ho,_⟩:=I.ok.sr.mem hb;exact absurd (Nat.lt_of_lt_of_le (Heap.lt_size ho) (Nat.le_trans I.sz h)) (Nat.lt_irrefl _)
theorem Inv.cne(I:Inv X pins σ H s):∀x c,X.env.cells.lookup x=some c→c≠X.env.locals:=λx c e z=>by
 obtain⟨v,o,ho,hd⟩:=I.cell x c e;obtain⟨m,⟨o',es,ep,ho',hd',_⟩,_⟩:=I.loc;rw[z,ho']at ho;cases ho;rw[hd']at hd;cases hd
theorem Inv.sr(I:Inv X pins σ H s):s.heap.FunFrames X.base X.outer:=by
 have all:∀(l:List Env),(∀b∈frs l,b∈X.fs)→X.s_0.heap.FunFrames X.base l→s.heap.FunFrames X.base l:=by
  intro l
  induction l with
  |nil=>intro _ _;trivial
  |cons env r ih=>
   intro hs hl;obtain⟨hk,⟨L,o,hf,hn,ho,hd⟩,hr⟩:=hl;have hL:L∈X.fs:=hs L (by unfold frs;rw[List.filterMap_cons,hf];exact List.mem_cons_self)
   obtain⟨sl,e⟩:=I.base.slot L o ho (I.ok.frf L hL) hL λz=>I.ok.Bg L z hL;exact⟨hk,⟨L,_,hf,hn,e,hd⟩,ih (λb hb=>hs b (by unfold frs;rw[List.filterMap_cons,hf];exact List.mem_cons_of_mem _ hb)) hr⟩
 exact all X.outer (λ_ hb=>hb) I.ok.sr
theorem Inv.stack(I:Inv X pins σ H s):s.heap.FunFrames X.base X.stack:=by
 rcases I.ok.stk with e|⟨e,hf⟩
 ·rw[e];exact I.sr
 ·rw[e];obtain⟨m,hn,_⟩:=I.loc;refine .cons (by rw[I.ok.kind];decide) hf hn ?_ I.sr
  exact Heap.get?_none_of_le (Nat.le_trans I.ok.bsz I.ok.above)
theorem Inv.yb(I:Inv X pins σ H s):∀b∈frs X.stack,b∈X.env.locals::X.fs:=λb hb=>by
 rcases I.ok.stk with e|⟨e,hf⟩
 ·rw[e]at hb;exact List.mem_cons_of_mem _ hb
 ·rw[e]at hb;unfold frs at hb;rw[List.filterMap_cons,hf]at hb;exact hb
theorem Inv.uS(I:Inv X pins σ H s):∀b∈frs X.stack,H b=none:=λb hb=>by
 rcases List.mem_cons.mp (I.yb b hb)with e|hb
 ·rw[e];exact I.free
 ·obtain⟨_,o,ho,_⟩:=I.ok.sr.mem hb;exact I.base.free b o ho (I.ok.frf b hb) λz=>I.ok.Bg b z hb
theorem Inv.step{g':Array GenState}{t':Nat}{d':Drawn}{ch:List Addr}(I:Inv X pins σ H s)
  (hch:∀b∈ch,(b∈X.ex∨X.s_0.heap.objs.size≤b)∧b≠X.env.locals∧(∀x c,X.env.cells.lookup x=some c→c≠b)∧∀p∈X.pn++pins,p.1≠b)
  (keep:∀b o,b≠X.env.locals→b∉X.fs→b∉ch→s.heap.get? b=some o→H b=none→h'.get? b=some o)
  (slot:∀b o,b≠X.env.locals→b∈X.fs→b∉ch→s.heap.get? b=some o→H b=none→∃sl,h'.get? b=some {o with slots:=sl})(free:∀b o,b∉ch→s.heap.get? b=some o→H b=none→H' b=none)
  (there:∀b o,b∉ch→s.heap.get? b=some o→∃o',h'.get? b=some o')
  (qz:∀b xs,H b=some (.tup xs)→H' b=some (.tup xs))(oJ:∀b o u,H b=some (.frz o u)→H' b=some (.frz o u))(qB:∀b ps,H b=some (.tbl ps)→∃more,H' b=some (.tbl (ps++more)))
  (ns:∀m,s.heap.Ns X.env.locals m→h'.Ns X.env.locals m)(hok:HOk X.prog X.w H' h')(hg:AllBare g'):
  Inv X pins σ H' {s with heap:=h',gens:=g',drawn:=d',toks:=t'}:=by
 have neL:∀b o,X.s_0.heap.get? b=some o→b≠X.env.locals:=λb o e=>Nat.ne_of_lt (Nat.lt_of_lt_of_le (Heap.lt_size e) I.ok.above);have neC:∀b o,X.s_0.heap.get? b=some o→b∉X.ex→b∉ch:=λb o e hx hb=>by
  rcases(hch b hb).1 with z|z
  ·exact hx z
  ·exact absurd (Nat.lt_of_lt_of_le (Heap.lt_size e) z) (Nat.lt_irrefl _)
 have cellK:∀x c,X.env.cells.lookup x=some c→∀v,s.heap.IsCell c v→h'.IsCell c v:=λx c e v⟨o,ho,hd⟩=>by
  have nch:c∉ch:=λz=>(hch c z).2.2.1 x c e rfl
  by_cases hc:c∈X.fs
  ·obtain⟨sl,q⟩:=slot c o (I.cne x c e) hc nch ho (I.gu x c e);exact⟨_,q,hd⟩
  ·exact⟨o,keep c o (I.cne x c e) hc nch ho (I.gu x c e),hd⟩
 refine⟨I.ok,I.os,hg,⟨λb o e n hb hx=>?_,λb o e n hb hx=>?_,λb o e n hx=>?_,λb o e hx=>?_,λb xs e=>qz b xs (I.base.qz b xs e),λb o xs e=>oJ b o xs (I.base.oJ b o xs e),λb ps e=>?_⟩,?_,λx c e=>?_,?_,λx c e=>?_,λp hp=>?_,hok,I.len⟩
 ·exact keep b o (neL b o e) hb (neC b o e hx) (I.base.keep b o e n hb hx) (I.base.free b o e n hx)
 ·obtain⟨sl,e1⟩:=I.base.slot b o e n hb hx;obtain⟨sl',e2⟩:=slot b _ (neL b o e) hb (neC b o e hx) e1 (I.base.free b o e n hx);exact⟨sl',e2⟩
 ·obtain⟨o',e1⟩:=I.base.there b o e hx;exact free b o' (neC b o e hx) e1 (I.base.free b o e n hx)
 ·obtain⟨o',e1⟩:=I.base.there b o e hx;exact there b o' (neC b o e hx) e1
 ·obtain⟨m1,e1⟩:=I.base.qB b ps e;obtain⟨m2,e2⟩:=qB b _ e1;exact⟨m1++m2,by rw[e2,Array.append_assoc]⟩
 ·obtain⟨m,hn,hl⟩:=I.loc;refine⟨m,ns m hn,λi x v e1 e2 e3=>?_⟩;obtain⟨u,r,l⟩:=hl i x v e1 e2 e3;refine⟨u,r,?_⟩;rcases l with l|⟨k,c,e,z⟩
  ·exact .inl l
  ·exact .inr ⟨k,c,e,cellK x c e _ z⟩
 ·obtain⟨v,z⟩:=I.cell x c e;exact⟨v,cellK x c e v z⟩
 ·obtain⟨m,⟨o,_,_,ho,_⟩,_⟩:=I.loc;exact free _ o (λz=>(hch _ z).2.1 rfl) ho I.free
 ·obtain⟨v,o,ho,hd⟩:=I.cell x c e;exact free c o (λz=>(hch c z).2.2.1 x c e rfl) ho (I.gu x c e)
 ·obtain⟨e,n,ne,nf,d⟩:=I.pin p hp;have nch:p.1∉ch:=λz=>(hch p.1 z).2.2.2 p hp rfl;exact⟨keep p.1 p.2 ne nf nch e n,free p.1 p.2 nch e n,ne,nf,d⟩
theorem Inv.un{t':Nat}(I:Inv X pins σ H s)(u:Un X.fs [] H H' s.heap h')(hok:HOk X.prog X.w H' h'):Inv X pins σ H' {s with heap:=h',toks:=t'}:=by
 obtain⟨m,⟨o,es,ep,ho,r⟩,_⟩:=id I.loc;obtain⟨sl,hL⟩:=u.any ho I.free (by simp)
 exact I.step (g':=s.gens) (d':=s.drawn) (ch:=[]) (λ_ z=>nomatch z) (λb o _ hb _ e n=>u.keep b o e n hb (by simp)) (λb o _ hb _ e n=>u.slot b o e n hb (by simp)) (λb o _ e n=>u.free b o e n (by simp)) (λb o _ e=>u.there b o e (by simp)) u.qz u.oJ u.qB (λm' hm=>by
  obtain⟨o',es',ep',ho',r'⟩:=hm;rw[ho]at ho';cases ho';exact⟨_,es',ep',hL,r'⟩) hok I.bare
theorem Inv.call{g':Array GenState}{t':Nat}{d':Drawn}{ch:List Addr}(I:Inv X pins σ H s)(u:Un (frs X.stack) ch H H' s.heap h')(hok:HOk X.prog X.w H' h')(hg:AllBare g')
  (hch:∀b∈ch,(b∈X.ex∨X.s_0.heap.objs.size≤b)∧b≠X.env.locals∧(∀x c,X.env.cells.lookup x=some c→c≠b)∧∀p∈X.pn++pins,p.1≠b):
  Inv X pins σ H' {s with heap:=h',gens:=g',drawn:=d',toks:=t'}:=by
 obtain⟨m,⟨o,es,ep,ho,r⟩,_⟩:=id I.loc;obtain⟨sl,hL⟩:=u.any ho I.free λz=>(hch _ z).2.1 rfl;exact I.step (ch:=ch) hch (λb o hL hb hc e n=>u.keep b o e n (λz=>(List.mem_cons.mp (I.yb b z)).elim hL hb) hc) (λb o _ _ hc e n=>u.any e n hc) (λb o hc e n=>u.free b o e n hc) (λb o hc e=>u.there b o e hc) u.qz u.oJ u.qB (λm' hm=>by
  obtain⟨o',es',ep',ho',r'⟩:=hm;rw[ho]at ho';cases ho';exact⟨_,es',ep',hL,r'⟩) hok hg
theorem Inv.turned{t':Nat}{it:Addr}(I:Inv X pins σ H s)(k:∀b o,b≠it→s.heap.get? b=some o→h'.get? b=some o)(hn:H it=none)(hL:it≠X.env.locals)
  (h1:it∈X.ex∨X.s_0.heap.objs.size≤it)(h2:∀x c,X.env.cells.lookup x=some c→c≠it)(h3:∀p∈X.pn++pins,p.1≠it):Inv X pins σ H {s with heap:=h',toks:=t'}:=by
 have nit:∀b u,H b=some u→b≠it:=λb u e z=>by rw[z,hn]at e;cases e
 refine I.step (g':=s.gens) (d':=s.drawn) (ch:=[it]) (λb hb=>?_) (λb o _ _ hc e _=>k b o (λz=>hc (by simp[z])) e) (λb o _ _ hc e _=>⟨o.slots,k b o (λz=>hc (by simp[z])) e⟩) (λ_ _ _ _ n=>n)
  (λb o hc e=>⟨o,k b o (λz=>hc (by simp[z])) e⟩) (λ_ _ e=>e) (λ_ _ _ e=>e) (λb ps e=>⟨#[],by rw[e];simp⟩) (λm hm=>?_) (λb u e=>?_) I.bare
 ·have e:b=it:=by simpa using hb
  subst e;exact⟨h1,hL,h2,h3⟩
 ·obtain⟨o,es,ep,ho,r⟩:=hm;exact⟨o,es,ep,k _ o (Ne.symm hL) ho,r⟩
 ·refine(I.hok b u e).rn (λc v hc q=>k c v ?_ q) (λ_ q=>q) λ_ _ q=>q;rcases hc with z|z
  ·rw[z];exact nit b u e
  ·exact nit c _ z
theorem Inv.tok(I:Inv X pins σ H s)(t:Nat):Inv X pins σ H {s with toks:=t}:=I.un (h':=s.heap) (t':=t) Un.refl I.hok
theorem Inv.kept{t':Nat}(I:Inv X pins σ H s)(k:∀b u,s.heap.get? b=some u→h'.get? b=some u):Inv X pins σ H {s with heap:=h',toks:=t'}:=I.un (Un.kept k) (I.hok.kept k)
theorem Inv.laid{a:Addr}{o:HO}{t':Nat}(I:Inv X pins σ H s)(k:∀b u,s.heap.get? b=some u→h'.get? b=some u)(hp:s.heap.objs.size≤a)(new:bM X.prog X.w (upd H a o) h' a o):
  Inv X pins σ (upd H a o) {s with heap:=h',toks:=t'}:=I.un (Un.laid k hp (I.hok.fresh hp)) (I.hok.laid k hp new)
theorem Inv.write{x e:Addr}{o:HO}{t':Nat}(I:Inv X pins σ H s)(mu:Mut (H x))(he:e=x∨H e=some (.own x))(k:∀b u,b≠e→s.heap.get? b=some u→h'.get? b=some u)(heo:∃u,h'.get? e=some u)
  (new:bM X.prog X.w (upd H x o) h' x o):Inv X pins σ (upd H x o) {s with heap:=h',toks:=t'}:=I.un (Un.write mu he k heo) (I.hok.write mu he k heo new)
theorem Inv.weak{σ':List (Option V)}(I:Inv X pins σ H s)(hl:σ'.length=σ.length)(w:∀(i:Nat)v,σ'[i]?=some (some v)→σ[i]?=some (some v)):Inv X pins σ' H s:=
 ⟨I.ok,I.os,I.bare,I.base,let⟨m,hn,hl'⟩:=I.loc;⟨m,hn,λi x v e1 e2 e3=>hl' i x v e1 (w i v e2) e3⟩,I.cell,I.free,I.gu,I.pin,I.hok,hl.trans I.len⟩
theorem Inv.BS{pins':List (Addr×Obj)}(I:Inv X pins σ H s)(h:∀p∈pins',s.heap.get? p.1=some p.2∧H p.1=none∧p.1≠X.env.locals∧p.1∉X.fs∧∀v,p.2.data≠.cell v):Inv X pins' σ H s:=
 ⟨I.ok,I.os,I.bare,I.base,I.loc,I.cell,I.free,I.gu,λp hp=>(List.mem_append.mp hp).elim (λz=>I.pin p (List.mem_append_left _ z)) (h p),I.hok,I.len⟩
theorem rQ{N:List Str}(hN:N.Nodup){i j:Nat}{x:Str}(a:N[i]?=some x)(b:N[j]?=some x):i=j:=by
 obtain⟨h1,e1⟩:=List.getElem?_eq_some_iff.mp a;obtain⟨h2,e2⟩:=List.getElem?_eq_some_iff.mp b;exact(List.getElem_inj hN).mp (e1.trans e2.symm)
theorem xi{M:Model}{A:Around}{E:Value→Shared→Prop}{i:Nat}{x:Str}{v:V}{u:Value}{Q:Unit→Shared→Prop}(I:Inv X pins σ H s)(hN:X.N.Nodup)(hi:X.N[i]?=some x)(hx:Loc X.env.scope x)(r:RelV v u)
  (h:∀s',Inv X pins (σ.set i (some v)) H s'→(∃a,Heap.SameBut a s.heap s'.heap∧(a=X.env.locals∨X.env.cells.lookup x=some a))→Q () s')(hf:X.fn x=true∨X.env.scope.names.lookup x=some .local:=by first|exact .inl rfl|exact .inr rfl|assumption):wpAny M A (storeName X.env x u) Q E s:=by
 obtain⟨m,hn,hl⟩:=id I.loc;have hcls:(X.env.scope.kind==.class||(X.env.scope.kind==.module&&X.env.locals !=X.env.globals))=false:=by rw[I.ok.kind];rfl
 have hiσ:i<σ.length:=by rw[I.len];exact(List.getElem?_eq_some_iff.mp hi).1
 have cne:=I.cne;have tracked:∀{a:Addr}{h':Heap},(∃o,s.heap.get? a=some o∧H a=none)→Heap.SameBut a s.heap h'→HOk X.prog X.w H h':=λ{a h'}ha hs b ob e=>by
  obtain⟨_,_,hfree⟩:=ha;refine(I.hok b ob e).rn (λc w' hc q=>(hs.2 c ?_).trans q) (λ_ q=>q) λ_ _ q=>q;rintro rfl;rcases hc with rfl|hc
  ·rw[hfree]at e;cases e
  ·rw[hfree]at hc;cases hc
 rcases hx with hk|hk
 ·refine wpAny_storeName_local hk hn (λh' hn' hs=>?_) hcls;obtain⟨oL,_,_,hoL,_⟩:=id hn;refine h _ ⟨I.ok,I.os,I.bare,⟨λb o e n hb hx=>?_,λb o e n hb hx=>?_,I.base.free,λb o e hx=>?_,I.base.qz,I.base.oJ,I.base.qB⟩,⟨_,hn',λj y v' e1 e2 e3=>?_⟩,λy c e=>?_,I.free,I.gu,λp hp=>?_,tracked ⟨oL,hoL,I.free⟩ hs,by simpa using I.len⟩ ⟨_,hs,.inl rfl⟩
  ·exact(hs.2 b (Nat.ne_of_lt (Nat.lt_of_lt_of_le (Heap.lt_size e) I.ok.above))).trans (I.base.keep b o e n hb hx)
  ·obtain⟨sl,e1⟩:=I.base.slot b o e n hb hx;exact⟨sl,(hs.2 b (Nat.ne_of_lt (Nat.lt_of_lt_of_le (Heap.lt_size e) I.ok.above))).trans e1⟩
  ·obtain⟨o',e1⟩:=I.base.there b o e hx;exact⟨o',(hs.2 b (Nat.ne_of_lt (Nat.lt_of_lt_of_le (Heap.lt_size e) I.ok.above))).trans e1⟩
  ·by_cases hj:j=i
   ·subst hj;rw[hi]at e1;cases e1;rw[List.getElem?_set_self hiσ]at e2;cases e2;exact⟨u,r,.inl ⟨hk,by simp⟩⟩
   ·rw[List.getElem?_set_ne (Ne.symm hj)]at e2;obtain⟨u',r',q⟩:=hl j y v' e1 e2 e3;refine⟨u',r',?_⟩;rcases q with⟨k,e⟩|⟨k,c,e,z⟩
    ·refine .inl ⟨k,?_⟩;have:y≠x:=λe=>hj (rQ hN e1 (e▸hi));simp[this,e]
    ·exact .inr ⟨k,c,e,z.sameBut hs (cne y c e)⟩
  ·obtain⟨w',z⟩:=I.cell y c e;exact⟨w',z.sameBut hs (cne y c e)⟩
  ·obtain⟨e,n,ne,nf,d⟩:=I.pin p hp;exact⟨(hs.2 p.1 ne).trans e,n,ne,nf,d⟩
 ·have hfn:X.fn x=true:=by
   rcases hf with z|z
   ·exact z
   ·rw[z]at hk;cases hk
  obtain⟨c,hc⟩:=I.ok.has x (.inl hk);obtain⟨w',z⟩:=I.cell x c hc;refine wpAny_storeName_cell I.ok.kind hk hc z (λh' hc' hs=>?_);obtain⟨oc,hoc,hocd⟩:=id z;refine h {s with heap:=h'} ⟨I.ok,I.os,I.bare,⟨λb o e n hb hx=>?_,λb o e n hb hx=>?_,I.base.free,λb o e hx=>?_,I.base.qz,I.base.oJ,I.base.qB⟩,⟨m,hn.sameBut hs (Ne.symm (cne x c hc)),λj y v' e1 e2 e3=>?_⟩,λy c' e=>?_,I.free,I.gu,λp hp=>?_,tracked ⟨oc,hoc,I.gu x c hc⟩ hs,by simpa using I.len⟩ ⟨c,hs,.inr hc⟩
  ·exact(hs.2 b (Nat.ne_of_lt (Nat.lt_of_lt_of_le (Heap.lt_size e) (I.ok.cab x c hfn hc)))).trans (I.base.keep b o e n hb hx)
  ·obtain⟨sl,e1⟩:=I.base.slot b o e n hb hx;exact⟨sl,(hs.2 b (Nat.ne_of_lt (Nat.lt_of_lt_of_le (Heap.lt_size e) (I.ok.cab x c hfn hc)))).trans e1⟩
  ·obtain⟨o',e1⟩:=I.base.there b o e hx;exact⟨o',(hs.2 b (Nat.ne_of_lt (Nat.lt_of_lt_of_le (Heap.lt_size e) (I.ok.cab x c hfn hc)))).trans e1⟩
  ·by_cases hj:j=i
   ·subst hj;rw[hi]at e1;cases e1;rw[List.getElem?_set_self hiσ]at e2;cases e2;exact⟨u,r,.inr ⟨.inl hk,c,hc,hc'⟩⟩
   ·rw[List.getElem?_set_ne (Ne.symm hj)]at e2;obtain⟨u',r',q⟩:=hl j y v' e1 e2 e3;refine⟨u',r',?_⟩;rcases q with q|⟨k,c',e,z'⟩
    ·exact .inl q
    ·refine .inr ⟨k,c',e,z'.sameBut hs ?_⟩;rintro rfl;exact hj (rQ hN e1 (I.ok.inj _ _ _ e hc▸hi))
  ·by_cases hcc:c'=c
   ·subst hcc;exact⟨_,hc'⟩
   ·obtain⟨w2,z2⟩:=I.cell y c' e;exact⟨w2,z2.sameBut hs hcc⟩
  ·obtain⟨e,n,ne,nf,d⟩:=I.pin p hp;refine⟨(hs.2 p.1 ?_).trans e,n,ne,nf,d⟩;intro q;rw[q,hoc]at e;have q':oc=p.2:=Option.some.inj e;exact d w' (by rw[←q'];exact hocd)
theorem rm{M:Model}{A:Around}{E:Value→Shared→Prop}{i:Nat}{x:Str}{v:V}{u:Value}{Q:Unit→Shared→Prop}(I:Inv X pins σ H s)(hN:X.N.Nodup)(hi:X.N[i]?=some x)(hx:Loc X.env.scope x)(r:RelV v u)
  (h:∀s',Inv X pins (σ.set i (some v)) H s'→Q () s')(hf:X.fn x=true∨X.env.scope.names.lookup x=some .local:=by first|exact .inl rfl|exact .inr rfl|assumption):wpAny M A (storeName X.env x u) Q E s:=
 xi I hN hi hx r (λs' I' _=>h s' I') hf
theorem Inv.Co{s':Shared}{ch:List Addr}(I:Inv X pins σ H s)(ho:s'.os=s.os)(u:Un (frs X.stack) ch H H' s.heap s'.heap)(hok:HOk X.prog X.w H' s'.heap)(hg:AllBare s'.gens)
  (hch:∀b∈ch,(b∈X.ex∨X.s_0.heap.objs.size≤b)∧b≠X.env.locals∧(∀x c,X.env.cells.lookup x=some c→c≠b)∧∀p∈X.pn++pins,p.1≠b):Inv X pins σ H' s':=by
 obtain⟨h',g',d',t',o'⟩:=s';have e:o'=s.os:=ho;subst e;exact I.call (g':=g') (t':=t') (d':=d') u hok hg hch
end
abbrev XK:=Value→Option Addr→Hp→Prop
abbrev St:=List (Option V)
abbrev VK:=V→Hp→Prop
abbrev TE:=St→Hp→VK→Prop
abbrev TT:=St→Hp→(Bool→Hp→Prop)→Prop
abbrev TA:=St→Hp→(List V→Hp→Prop)→Prop
structure Ends where
 nx:St→Hp→Prop
 rt:VK
 bk:St→Hp→Prop:=λ_ _=>False
 ct:St→Hp→Prop:=λ_ _=>False
abbrev TS:=Ends→St→Hp→Prop
def EP(X:Cx)(pins:List (Addr×Obj))(σ:St)(Q:VK)(u:Value)(s':Shared):Prop:=∃v H',Inv X pins σ H' s'∧RelV v u∧Q v H'
def TP(X:Cx)(pins:List (Addr×Obj))(σ:St)(Q:Bool→Hp→Prop)(b:Bool)(s':Shared):Prop:=∃H',Inv X pins σ H' s'∧Q b H'
def AP(X:Cx)(pins:List (Addr×Obj))(σ:St)(Q:List V→Hp→Prop)(us:List Value)(s':Shared):Prop:=∃vs H',Inv X pins σ H' s'∧Vals vs us∧Q vs H'
def SP(X:Cx)(pins:List (Addr×Obj))(D:Ends)(f:Flow)(s':Shared):Prop:=
 match f with
 |.next=>∃σ' H',Inv X pins σ' H' s'∧D.nx σ' H'
 |.brk=>∃σ' H',Inv X pins σ' H' s'∧D.bk σ' H'
 |.cont=>∃σ' H',Inv X pins σ' H' s'∧D.ct σ' H'
 |.ret u=>∃v σ' H',Inv X pins σ' H' s'∧RelV v u∧D.rt v H'
def PE(X:Cx)(e:Expr)(t:TE):Prop:=
 ∀(pins:List (Addr×Obj))(s:Shared)(σ:St)(H:Hp)(Q:VK),Inv X pins σ H s→t σ H Q→wpAny (model X.prog X.w) X.A (eval e X.env) (EP X pins σ Q) X.xe s
def PT(X:Cx)(e:Expr)(t:TT):Prop:=
 ∀(pins:List (Addr×Obj))(s:Shared)(σ:St)(H:Hp)(Q:Bool→Hp→Prop),Inv X pins σ H s→t σ H Q→wpAny (model X.prog X.w) X.A (isTrue e X.env (eval e X.env)) (TP X pins σ Q) X.xe s
def PW(X:Cx)(e:Expr)(t:TT):Prop:=
 ∀(whole:Sem Value)(pins:List (Addr×Obj))(s:Shared)(σ:St)(H:Hp)(Q:Bool→Hp→Prop),Inv X pins σ H s→t σ H Q→wpAny (model X.prog X.w) X.A (isTrue e X.env whole) (TP X pins σ Q) X.xe s
theorem PW.pt{X:Cx}{e:Expr}{t:TT}(h:PW X e t):PT X e t:=h _
def PA(X:Cx)(es:List Expr)(t:TA):Prop:=
 ∀(pos:Pos)(pins:List (Addr×Obj))(s:Shared)(σ:St)(H:Hp)(Q:List V→Hp→Prop),Inv X pins σ H s→t σ H Q→wpAny (model X.prog X.w) X.A (spliced (backTo pos (starEach es X.env))) (AP X pins σ Q) X.xe s
def PS(X:Cx)(st:Stmt)(t:TS):Prop:=
 ∀(pins:List (Addr×Obj))(s:Shared)(σ:St)(H:Hp)(D:Ends),Inv X pins σ H s→t D σ H→wpAny (model X.prog X.w) X.A (exec st X.env) (SP X pins D) X.xe s
def PSs(X:Cx)(st:List Stmt)(t:TS):Prop:=
 ∀(pins:List (Addr×Obj))(s:Shared)(σ:St)(H:Hp)(D:Ends),Inv X pins σ H s→t D σ H→wpAny (model X.prog X.w) X.A (execs st X.env) (SP X pins D) X.xe s
theorem thn{α:Type}{t:Sem α}{Q Q':α→Shared→Prop}{M:Model}{A:Around}{E:Value→Shared→Prop}{s:Shared}(h:wpAny M A t Q E s)(hQ:∀a s,Q a s→Q' a s):wpAny M A t Q' E s:=wpAny_mono h hQ λ_ _ x=>x
section
variable {X:Cx}
def b9(i:Nat):TE:=λσ H Q=>∃v,σ[i]?=some (some v)∧Q v H
def tC(v:V):TE:=λ_ H Q=>Q v H
theorem Ir{i:Nat}{x:Str}{pos:Pos}(hN:X.N[i]?=some x)(hv:Vis X.env.scope x)(hd:(x==("__debug__":Str))=false:=by decide)(hcd:(x==("__classdict__":Str))=false:=by decide):PE X (.Name x pos) (b9 i):=by
 intro pins s σ H Q I h;obtain⟨v,e,h⟩:=h;obtain⟨m,hn,hl⟩:=I.loc;obtain⟨u,r,l⟩:=hl i x v hN e hv;have fin:EP X pins σ Q u s:=⟨v,H,I,r,h⟩;rcases l with⟨hk,hm⟩|⟨hk,c,hc,hcell⟩
 ·exact wpAny_Name (wpAny_loadName_local I.ok.kind hk hn hm fin) hd
 ·rcases hk with hk|hk
  ·exact wpAny_Name (wpAny_loadName_cell I.ok.kind hk hc hcell fin) hd
  ·exact wpAny_Name (wpAny_loadName_free I.ok.kind hk hc hcell fin hcd) hd
theorem aA{i j pos}:PE X (.Constant (.int i) j pos) (tC (.int i)):=λ_ _ _ H _ I h=>wpAny_Constant_int ⟨.int i,H,I.tok _,⟨_,rfl⟩,h⟩
theorem vI{b j pos}:PE X (.Constant (.bool b) j pos) (tC (.bl b)):=λ_ _ _ H _ I h=>Constant_bool ⟨.bl b,H,I,rfl,h⟩
theorem AK{j pos}:PE X (.Constant .none j pos) (tC .non):=λ_ _ _ H _ I h=>Constant_none ⟨.non,H,I,rfl,h⟩
theorem Iu{x j pos}:PE X (.Constant (.str x) j pos) (tC (.str x)):=λ_ _ _ H _ I h=>Calls.Constant_str ⟨.str x,H,I.tok _,⟨_,rfl⟩,h⟩
def Gl(X:Cx)(x:Str):Prop:=X.env.kindOf x=some .globalImplicit
theorem km{E:Value→Shared→Prop}{pins:List (Addr×Obj)}{s:Shared}{σ:St}{H:Hp}{x:Str}{u:Value}{pos:Pos}{Q:Value→Shared→Prop}(I:Inv X pins σ H s)(hg:Gl X x)(hm:X.mg x=some u)(h:Q u s)
  (hd:(x==("__debug__":Str))=false:=by decide):wpAny (model X.prog X.w) X.A (eval (.Name x pos) X.env) Q E s:=
 Calls.Name_function_global I.ok.kind hg (Calls.loadGlobal_global (by rw[I.ok.glob];exact I.mod.glob.keeps I.bk) hm h) hd
theorem A4{E:Value→Shared→Prop}{pins:List (Addr×Obj)}{s:Shared}{σ:St}{H:Hp}{x:Str}{u:Value}{pos:Pos}{Q:Value→Shared→Prop}(I:Inv X pins σ H s)(hg:Gl X x)(hm:X.mg x=none)(hv:bootBuiltins x=some u)(h:Q u s)
  (hn:x≠"__name__":=by decide)(hd:(x==("__debug__":Str))=false:=by decide):wpAny (model X.prog X.w) X.A (eval (.Name x pos) X.env) Q E s:=by
 obtain⟨mb,h1,h2⟩:=I.mod.blt;exact Calls.Name_function_global I.ok.kind hg (Calls.loadGlobal_builtin (by rw[I.ok.glob];exact I.mod.glob.keeps I.bk) hm (by rw[I.ok.blt];exact h1.keeps I.bk) ((h2 x hn).trans hv) h) hd
theorem FU{x:Str}{v:V}{u:Value}{pos:Pos}(hg:Gl X x)(hm:X.mg x=some u)(r:RelV v u)(hd:(x==("__debug__":Str))=false:=by decide):PE X (.Name x pos) (tC v):=
 λ_ _ _ H _ I h=>km I hg hm ⟨v,H,I,r,h⟩ hd
variable {a b:Expr}{ta tb:TE}{pos:Pos}
def PC(X:Cx)(op:CmpOp)(a b:Expr)(t:TE):Prop:=
 ∀(pins:List (Addr×Obj))(s:Shared)(σ:St)(H:Hp)(Q:VK),Inv X pins σ H s→t σ H Q→
  wpAny (model X.prog X.w) X.A (eval a X.env) (λv s₁=>wpAny (model X.prog X.w) X.A (eval b X.env) (λu s₂=>wpAny (model X.prog X.w) X.A (compareOp op v u) (EP X pins σ Q) X.xe s₂) X.xe s₁) X.xe s
theorem zJ(b:Expr){op:CmpOp}(h:op≠.In)(h2:op≠.NotIn):behindInMarks op b=false:=by
 have e1:(op==CmpOp.In)=false:=by cases op<;>first|rfl|exact absurd rfl h
 have e2:(op==CmpOp.NotIn)=false:=by cases op<;>first|rfl|exact absurd rfl h2
 cases b<;>simp[behindInMarks,e1,e2]
def Jv(ta:TE):TE:=λσ H Q=>ta σ H λx H1=>Q (.bl (decide (x=.non))) H1
def GK(ta:TE):TE:=λσ H Q=>ta σ H λx H1=>Q (.bl (!decide (x=.non))) H1
theorem RelV.zI{x:V}{v:Value}(r:RelV x v):(v==Value.none)=decide (x=.non):=by
 cases x with
 |non=>cases r;rfl
 |bl _=>cases r;rfl
 |int _=>obtain⟨t,rfl⟩:=r;rfl
 |str _=>obtain⟨t,rfl⟩:=r;rfl
 |byt _=>obtain⟨t,rfl⟩:=r;rfl
 |flt _=>obtain⟨t,rfl⟩:=r;rfl
 |ref _=>cases r;rfl
 |ty _=>cases r;rfl
theorem Iw{j pos'}(ha:PE X a ta):PC X .Is a (.Constant .none j pos') (Jv ta):=by
 intro pins s σ H Q I h;refine thn (ha pins s σ H _ I h) λv s1⟨x,H1,I1,r1,q1⟩=>?_;exact Constant_none (is_none_gen ⟨.bl _,H1,I1,by rw[r1.zI];rfl,q1⟩)
theorem F0{j pos'}(ha:PE X a ta):PC X .IsNot a (.Constant .none j pos') (GK ta):=by
 intro pins s σ H Q I h;refine thn (ha pins s σ H _ I h) λv s1⟨x,H1,I1,r1,q1⟩=>?_;exact Constant_none (isnot_none_gen ⟨.bl _,H1,I1,by rw[r1.zI];rfl,q1⟩)
def tB(t:TE):TT:=λσ H Q=>t σ H λx H1=>∃c,x=.bl c∧Q c H1
theorem Iv{op:CmpOp}{t:TE}(h:PC X op a b t)(h1:behindInMarks op b=false:=by first|exact zJ _ (by decide) (by decide)|rfl):PE X (.Compare a [op] [b] pos) t:=λpins s σ H Q I hw=>wpAny_Compare1 (h pins s σ H Q I hw) h1
theorem n8{op:CmpOp}{t:TE}(h:PC X op a b t)(h1:behindInMarks op b=false:=by first|exact zJ _ (by decide) (by decide)|rfl):PT X (.Compare a [op] [b] pos) (tB t):=by
 intro pins s σ H Q I hw;refine wpAny_isTrue_Compare1 (thn (h pins s σ H _ I hw) λv s1 h1=>thn h1 λu s2 h2=>thn h2 λc s3⟨x,H1,I1,r1,q1⟩=>?_) h1;obtain⟨d,rfl,q⟩:=q1;cases r1;exact wpAny_truthy_bool ⟨H1,I1,q⟩
theorem dk{e:Expr}{t:TE}(h:PE X e t)(he:∀whole,isTrue e X.env whole=(do let v←whole;standAt e.pos;holding [v] (truthy v)):=by intro _;rfl):PT X e (tB t):=by
 intro pins s σ H Q I hw;refine isTrue_plain (thn (h pins s σ H _ I hw) λv s1⟨x,H1,I1,r1,q1⟩=>?_) (he _);obtain⟨d,rfl,q⟩:=q1;cases r1;exact wpAny_truthy_bool ⟨H1,I1,q⟩
variable {tA tB':TT}{rest:List Expr}
def Hn(t u:TT):TT:=λσ H Q=>t σ H λc H1=>if c=true then u σ H1 Q else Q false H1
def tOr(t u:TT):TT:=λσ H Q=>t σ H λc H1=>if c=true then Q true H1 else u σ H1 Q
def Jt(t:TT):TT:=λσ H Q=>t σ H λc H1=>Q (!c) H1
theorem o7(ha:PT X a tA):PW X (.BoolOp .And [a] pos) tA:=by
 intro wh pins s σ H Q I h;refine isTrue_and (thn (ha pins s σ H Q I h) λc s1 e=>?_);cases c with
 |true=>exact isTrue_and_nil e
 |false=>exact e
theorem qL(ha:PT X a tA):PW X (.BoolOp .Or [a] pos) tA:=by
 intro wh pins s σ H Q I h;refine isTrue_or (thn (ha pins s σ H Q I h) λc s1 e=>?_);cases c with
 |false=>exact isTrue_or_nil e
 |true=>exact e
theorem tD(ha:PT X a tA)(hb:PW X (.BoolOp .And (b::rest) pos) tB'):PW X (.BoolOp .And (a::b::rest) pos) (Hn tA tB'):=by
 intro wh pins s σ H Q I h;refine isTrue_and (thn (ha pins s σ H _ I h) λc s1⟨H1,I1,q1⟩=>?_);cases c with
 |true=>exact hb wh pins s1 σ H1 Q I1 q1
 |false=>exact⟨H1,I1,q1⟩
theorem ue(ha:PT X a tA)(hb:PW X (.BoolOp .Or (b::rest) pos) tB'):PW X (.BoolOp .Or (a::b::rest) pos) (tOr tA tB'):=by
 intro wh pins s σ H Q I h;refine isTrue_or (thn (ha pins s σ H _ I h) λc s1⟨H1,I1,q1⟩=>?_);cases c with
 |true=>exact⟨H1,I1,q1⟩
 |false=>exact hb wh pins s1 σ H1 Q I1 q1
theorem mi(ha:PT X a tA):PT X (.UnaryOp .Not a pos) (Jt tA):=by
 intro pins s σ H Q I h;exact isTrue_not (ha pins s σ H (λc H1=>Q (!c) H1) I h)
def GP(ta tb:TE):TE:=λσ H Q=>ta σ H λx H1=>∃c,x=.bl c∧if c=true then tb σ H1 Q else Q (.bl false) H1
def Hi(ta tb:TE):TE:=λσ H Q=>ta σ H λx H1=>∃c,x=.bl c∧if c=true then Q (.bl true) H1 else tb σ H1 Q
def Dy(ta:TE):TE:=λσ H Q=>ta σ H λx H1=>∃c,x=.bl c∧Q (.bl (!c)) H1
theorem kM{op}{t:TE}(h:PE X a t):PE X (.BoolOp op [a] pos) t:=λpins s σ H Q I hw=>BoolOp_one (h pins s σ H Q I hw)
theorem yq(ha:PE X a ta)(hb:PE X (.BoolOp .And (b::rest) pos) tb):PE X (.BoolOp .And (a::b::rest) pos) (GP ta tb):=by
 intro pins s σ H Q I h;refine BoolOp_and (thn (ha pins s σ H _ I h) λv s1⟨x,H1,I1,r1,q1⟩=>?_);obtain⟨c,rfl,q1⟩:=q1;cases r1;refine wpAny_truthy_bool ?_;cases c with
 |true=>exact hb pins s1 σ H1 Q I1 q1
 |false=>exact⟨.bl false,H1,I1,rfl,q1⟩
theorem uh(ha:PE X a ta)(hb:PE X (.BoolOp .Or (b::rest) pos) tb):PE X (.BoolOp .Or (a::b::rest) pos) (Hi ta tb):=by
 intro pins s σ H Q I h;refine BoolOp_or (thn (ha pins s σ H _ I h) λv s1⟨x,H1,I1,r1,q1⟩=>?_);obtain⟨c,rfl,q1⟩:=q1;cases r1;refine wpAny_truthy_bool ?_;cases c with
 |false=>exact hb pins s1 σ H1 Q I1 q1
 |true=>exact⟨.bl true,H1,I1,rfl,q1⟩
theorem D9(ha:PE X a ta):PE X (.UnaryOp .Not a pos) (Dy ta):=by
 intro pins s σ H Q I h;refine UnaryOp_ (thn (ha pins s σ H _ I h) λv s1⟨x,H1,I1,r1,q1⟩=>?_);obtain⟨c,rfl,q1⟩:=q1;cases r1;exact not_of (wpAny_truthy_bool ⟨.bl (!c),H1,I1,rfl,q1⟩)
def tIf(t:TT)(ta tb:TE):TE:=λσ H Q=>t σ H λc H1=>if c=true then ta σ H1 Q else tb σ H1 Q
theorem og{c:Expr}(hc:PT X c tA)(ha:PE X a ta)(hb:PE X b tb):PE X (.IfExp c a b pos) (tIf tA ta tb):=by
 intro pins s σ H Q I h;refine wpAny_IfExp (thn (hc pins s σ H _ I h) λd s1⟨H1,I1,q1⟩=>?_);cases d with
 |true=>exact ha pins s1 σ H1 Q I1 q1
 |false=>exact hb pins s1 σ H1 Q I1 q1
end
def SqL(K:PySem.W.Frag)(H:Hp)(a:Addr)(xs:List V):Prop:=
 Rd H a (.lst xs)∨
  ∃(o:Obj)(its:Array Value)(n:Nat),K.lookup a=some o∧o.cls=.type "list"∧o.dict=none∧o.data=.seq its n∧its.size≤sizeLine∧Vals xs its.toList
def SqT(K:PySem.W.Frag)(H:Hp)(a:Addr)(xs:List V):Prop:=
 Rd H a (.tup xs)∨
  ∃(o:Obj)(its:Array Value)(n:Nat),K.lookup a=some o∧o.cls=.type "tuple"∧o.data=.seq its n∧its.size≤sizeLine∧Vals xs its.toList
def Lh:Value→Option V
 |.none=>some .non
 |.bool b=>some (.bl b)
 |.int i _=>some (.int i)
 |.str x _=>some (.str x)
 |.bytes b _=>some (.byt b)
 |.float b _=>some (.flt b)
 |.ref a=>some (.ref a)
 |.type n=>some (.ty n)
 |_=>none
theorem RelV.abs{x:V}{u:Value}(r:RelV x u):Lh u=some x:=by
 cases x with
 |non=>cases r;rfl
 |bl _=>cases r;rfl
 |int _=>obtain⟨t,rfl⟩:=r;rfl
 |str _=>obtain⟨t,rfl⟩:=r;rfl
 |byt _=>obtain⟨t,rfl⟩:=r;rfl
 |flt _=>obtain⟨t,rfl⟩:=r;rfl
 |ref _=>cases r;rfl
 |ty _=>cases r;rfl
theorem RelV.inj{x y:V}{u:Value}(r:RelV x u)(q:RelV y u):x=y:=Option.some.inj (r.abs.symm.trans q.abs)
theorem Vals.inj:∀{xs ys:List V}{us:List Value},Vals xs us→Vals ys us→xs=ys
 |_,_,_,.nil,.nil=>rfl
 |_,_,_,.cons r t,.cons r' t'=>by rw[r.inj r',Vals.inj t t']
section
variable {X:Cx}{pins:List (Addr×Obj)}{σ:St}{H:Hp}{s:Shared}{a:Addr}{xs ys:List V}
theorem SqL.of{K:PySem.W.Frag}(h:H a=some (.lst xs)):SqL K H a xs:=.inl (.inl h)
theorem SqT.of{K:PySem.W.Frag}(h:H a=some (.tup xs)):SqT K H a xs:=.inl (.inl h)
theorem Inv.list(I:Inv X pins σ H s)(h:SqL X.K H a xs):∃its:List Value,Vals xs its∧PlainL s.heap a its.toArray∧xs.length≤sizeLine:=by
 rcases h with h|⟨o,its,n,hk,hc,hd,hs,hz,r⟩
 ·obtain⟨z,its,n,r,e⟩:=h.ok I.hok;exact⟨its,r,⟨_,n,e,rfl,rfl,rfl⟩,z⟩
 ·refine⟨its.toList,r,⟨o,n,I.kIn a o hk,hc,hd,by simpa using hs⟩,?_⟩
  have e:=r.length;simp only[Array.length_toList]at e;omega
theorem Inv.tuple(I:Inv X pins σ H s)(h:SqT X.K H a xs):∃its:List Value,Vals xs its∧IsTup s.heap a its.toArray∧xs.length≤sizeLine:=by
 rcases h with h|⟨o,its,n,hk,hc,hs,hz,r⟩
 ·obtain⟨z,its,r,p⟩:=h.ok I.hok;exact⟨its,r,p,z⟩
 ·refine⟨its.toList,r,⟨o,I.kIn a o hk,hc,n,by simpa using hs⟩,?_⟩
  have e:=r.length;simp only[Array.length_toList]at e;omega
theorem Inv.zS(I:Inv X pins σ H s)(h:SqL X.K H a xs)(h':SqL X.K H a ys):xs=ys:=by
 obtain⟨its,r,⟨o,n,e,_,_,d⟩,_⟩:=I.list h;obtain⟨its',r',⟨o',n',e',_,_,d'⟩,_⟩:=I.list h';rw[e]at e';cases e';rw[d]at d';injection d' with d1 _
 have:its=its':=by simpa using congrArg Array.toList d1
 subst this;exact r.inj r'
theorem Inv.Cw(I:Inv X pins σ H s)(h:SqT X.K H a xs)(h':SqT X.K H a ys):xs=ys:=by
 obtain⟨its,r,⟨o,e,_,n,d⟩,_⟩:=I.tuple h;obtain⟨its',r',⟨o',e',_,n',d'⟩,_⟩:=I.tuple h';rw[e]at e';cases e';rw[d]at d';injection d' with d1 _
 have:its=its':=by simpa using congrArg Array.toList d1
 subst this;exact r.inj r'
end
section
variable {X:Cx}{st:Stmt}{rest:List Stmt}{t u:TS}{e:Expr}{te:TE}{pos:Pos}
def GN:TS:=λD σ H=>D.nx σ H
def Dx(t u:TS):TS:=λD σ H=>t {D with nx:=u D} σ H
theorem aO:PSs X [] GN:=λ_ _ σ H _ I h=>wpAny_execs_nil ⟨σ,H,I,h⟩
theorem ag(h1:PS X st t)(h2:PSs X rest u):PSs X (st::rest) (Dx t u):=by
 intro pins s σ H D I h;refine wpAny_execs_cons (thn (h1 pins s σ H {D with nx:=u D} I h) λf s1 q=>?_)
 cases f with
 |next=>
  obtain⟨σ',H',I',q⟩:=q;exact h2 pins s1 σ' H' D I' q
 |ret v=>exact q
 |brk=>exact q
 |cont=>exact q
theorem ah(h1:PS X st t):PSs X [st] t:=by
 intro pins s σ H D I h;refine wpAny_execs_cons (thn (h1 pins s σ H D I h) λf s1 q=>?_);cases f with
 |next=>exact wpAny_execs_nil q
 |ret v=>exact q
 |brk=>exact q
 |cont=>exact q
theorem Inv.quiet{pins:List (Addr×Obj)}{σ:St}{H:Hp}{s:Shared}(I:Inv X pins σ H s):interactive X.env=false:=by simp[interactive,I.ok.kind]
def pO(te:TE):TS:=λD σ H=>te σ H λ_ H1=>D.nx σ H1
theorem ax(he:PE X e te)(hs:swapsWith e none pos.line X.env=pure false:=by rfl):PS X (.Expr e pos) (pO te):=by
 intro pins s σ H D I h;exact wpAny_Expr_any (thn (he pins s σ H _ I h) λv s1⟨x,H1,I1,r1,q1⟩=>⟨σ,H1,I1,q1⟩) I.quiet hs
def Js(te:TE):TS:=λD σ H=>te σ H D.rt
theorem ay(he:PE X e te):PS X (.Return (some e) pos) (Js te):=by
 intro pins s σ H D I h;exact wpAny_Return_some (thn (he pins s σ H _ I h) λv s1⟨x,H1,I1,r1,q1⟩=>⟨x,σ,H1,I1,r1,q1⟩)
def GJ:TS:=λD _ H=>D.rt .non H
theorem FN:PS X (.Return none pos) GJ:=λ_ _ σ H _ I h=>wpAny_Return_none ⟨.non,σ,H,I,rfl,h⟩
def Jw(c:TT)(t u:TS):TS:=λD σ H=>c σ H λb H1=>if b=true then t D σ H1 else u D σ H1
theorem aP{c:Expr}{a b:List Stmt}{tc:TT}(hc:PT X c tc)(ha:PSs X a t)(hb:PSs X b u):PS X (.If c a b pos) (Jw tc t u):=by
 intro pins s σ H D I h;refine wpAny_If (thn (hc pins s σ H _ I h) λd s1⟨H1,I1,q1⟩=>?_);cases d with
 |true=>exact ha pins s1 σ H1 D I1 q1
 |false=>exact hb pins s1 σ H1 D I1 q1
def Hj:TS:=λ_ _ _=>False
theorem D5:PS X st Hj:=λ_ _ _ _ _ _ h=>h.elim
end
abbrev TG:=V→St→Hp→(St→Hp→Prop)→Prop
abbrev TGs:=List V→St→Hp→(St→Hp→Prop)→Prop
def PG(X:Cx)(target:Expr)(t:TG):Prop:=
 ∀(pins:List (Addr×Obj))(s:Shared)(σ:St)(H:Hp)(v:V)(u:Value)(Q:St→Hp→Prop),Inv X pins σ H s→RelV v u→t v σ H Q→
  wpAny (model X.prog X.w) X.A (assign target X.env u) (λ_ s'=>∃σ' H',Inv X pins σ' H' s'∧Q σ' H') X.xe s
def PGs(X:Cx)(ts:List Expr)(t:TGs):Prop:=
 ∀(pins:List (Addr×Obj))(s:Shared)(σ:St)(H:Hp)(vs:List V)(us:List Value)(Q:St→Hp→Prop),Inv X pins σ H s→Vals vs us→t vs σ H Q→
  wpAny (model X.prog X.w) X.A (assignInOrder ((assignEach ts X.env).map (·.2)) us) (λ_ s'=>∃σ' H',Inv X pins σ' H' s'∧Q σ' H') X.xe s
abbrev TIp:=V→V→Hp→VK→Prop
def PIp(X:Cx)(op:Operator)(t:TIp):Prop:=
 ∀(pins:List (Addr×Obj))(s:Shared)(σ:St)(H:Hp)(x y:V)(v u:Value)(Q:VK),Inv X pins σ H s→RelV x v→RelV y u→t x y H Q→
  wpAny (model X.prog X.w) X.A (inplaceOp op v u) (EP X pins σ Q) X.xe s
section
variable {X:Cx}{pos:Pos}
def dX(i:Nat):TG:=λv σ H Q=>Q (σ.set i (some v)) H
theorem cn{i:Nat}{x:Str}(hN:X.N.Nodup)(hi:X.N[i]?=some x)(hx:Loc X.env.scope x)(hf:X.fn x=true∨X.env.scope.names.lookup x=some .local:=by first|exact .inl rfl|exact .inr rfl|assumption):PG X (.Name x pos) (dX i):=by
 intro pins s σ H v u Q I r h;exact wpAny_assign_Name (rm I hN hi hx r (λs' I'=>⟨_,H,I',h⟩) hf)
def Dc:TGs:=λvs σ H Q=>vs=[]∧Q σ H
def oG(t:TG)(u:TGs):TGs:=λvs σ H Q=>∃v r,vs=v::r∧t v σ H λσ' H'=>u r σ' H' Q
theorem yp:PGs X [] Dc:=by
 intro pins s σ H vs us Q I r h;obtain⟨e,h⟩:=h;subst e;cases r;exact assignInOrder_nil ⟨σ,H,I,h⟩
theorem ll{e:Expr}{es:List Expr}{t:TG}{u:TGs}(h1:PG X e t)(h2:PGs X es u)
  (hs:(assignEach (e::es) X.env).map (·.2)=assign e X.env::(assignEach es X.env).map (·.2):=by rfl):PGs X (e::es) (oG t u):=by
 intro pins s σ H vs us Q I r h;obtain⟨v,vr,e1,h⟩:=h;subst e1;cases r with
 |cons r rr=>
  rw[hs];refine assignInOrder_cons (thn (h1 pins s σ H _ _ _ I r h) λ_ s1⟨σ1,H1,I1,q1⟩=>?_);exact h2 pins s1 σ1 H1 _ _ Q I1 rr q1
def C9(K:PySem.W.Frag)(n:Nat)(t:TGs):TG:=λv σ H Q=>∃a xs,v=.ref a∧SqT K H a xs∧xs.length=n∧t xs σ H Q
theorem AJ{es:List Expr}{k:Nat}{t:TGs}{n:Nat}(hc:X.calm=true)(h:PGs X es t)
  (hn:(assignEach es X.env).length=n:=by rfl)(hst:(assignEach es X.env).findIdx? (·.1)=none:=by rfl):PG X (.Tuple es k pos) (C9 X.K n t):=by
 intro pins s σ H v u Q I r hw;obtain⟨a,xs,e1,hq,hl,hw⟩:=hw;subst e1;cases r;obtain⟨its,rv,ht,hz⟩:=I.tuple hq;refine assign_Tuple_tuple (I.ok.hd hc) ht (by simp[hn,←hl,rv.length]) hst λh' hx=>?_
 have I1:Inv X pins σ H {s with heap:=h'}:=I.kept (t':=s.toks) λb o e=>hx b o (Nat.ne_of_lt (Heap.lt_size e)) e
 exact h pins _ σ H xs _ Q I1 (by simpa using rv) hw
def Fd(te:TE)(g:TG):TS:=λD σ H=>te σ H λx H1=>g x σ H1 D.nx
theorem aI{i:Nat}{x:Str}{e:Expr}{te:TE}{pos':Pos}(hN:X.N.Nodup)(hi:X.N[i]?=some x)(hx:Loc X.env.scope x)(he:PE X e te)(hs:swapsWith e (some (.Name x pos')) pos.line X.env=pure false:=by rfl)(hf:X.fn x=true∨X.env.scope.names.lookup x=some .local:=by first|exact .inl rfl|exact .inr rfl|assumption):
  PS X (.Assign [.Name x pos'] e pos) (Fd te (dX i)):=by
 intro pins s σ H D I h;refine wpAny_Assign_Name (thn (he pins s σ H _ I h) λv s1⟨y,H1,I1,r1,q1⟩=>?_) hs;exact rm I1 hN hi hx r1 (λs2 I2=>⟨_,H1,I2,q1⟩) hf
def JA(i:Nat)(te:TE)(ti:TIp):TS:=λD σ H=>∃x,σ[i]?=some (some x)∧te σ H λy H1=>ti x y H1 λz H2=>D.nx (σ.set i (some z)) H2
theorem Io{i:Nat}{x:Str}{e:Expr}{te:TE}{op:Operator}{ti:TIp}{pos':Pos}(hN:X.N.Nodup)(hi:X.N[i]?=some x)(hx:Loc X.env.scope x)(he:PE X e te)(ho:PIp X op ti)(hf:X.fn x=true∨X.env.scope.names.lookup x=some .local:=by first|exact .inl rfl|exact .inr rfl|assumption):
  PS X (.AugAssign (.Name x pos') op e pos) (JA i te ti):=by
 intro pins s σ H D I h;obtain⟨v,e1,h⟩:=h;obtain⟨m,hn,hl⟩:=I.loc;have vis:Vis X.env.scope x:=by rcases hx with k|k;exact .inl k;exact .inr (.inl k)
 obtain⟨u,r,l⟩:=hl i x v hi e1 vis;refine wpAny_AugAssign_Name ?_;have go:wpAny (model X.prog X.w) X.A (eval e X.env) (λw s₂=>wpAny (model X.prog X.w) X.A (inplaceOp op u w) (λr s₃=>wpAny (model X.prog X.w) X.A (storeName X.env x r) (λ_=>SP X pins D .next) X.xe s₃) X.xe s₂) X.xe s:=by
  refine thn (he pins s σ H _ I h) λw s1⟨y,H1,I1,r1,q1⟩=>?_;refine thn (ho pins s1 σ H1 v y u w _ I1 r r1 q1) λz s2⟨zv,H2,I2,r2,q2⟩=>?_;exact rm I2 hN hi hx r2 (λs3 I3=>⟨_,H2,I3,q2⟩) hf
 rcases l with⟨hk,hm⟩|⟨hk,c,hc,hcell⟩
 ·exact wpAny_loadName_local I.ok.kind hk hn hm go
 ·rcases hk with hk|hk
  ·exact wpAny_loadName_cell I.ok.kind hk hc hcell go
  ·rcases hx with k|k
   ·have:X.env.scope.names.lookup x=some .free:=hk;rw[k]at this;cases this
   ·have:X.env.scope.names.lookup x=some .free:=hk;rw[k]at this;cases this
def ipI(f:Int→Int→Int):TIp:=λx y H Q=>∃i j,x=.int i∧y=.int j∧Q (.int (f i j)) H
theorem IK:PIp X .Sub (ipI λi j=>i-j):=by
 intro pins s σ H x y v u Q I r1 r2 h;obtain⟨i,j,e1,e2,q⟩:=h;subst e1;subst e2;obtain⟨t,rfl⟩:=r1;obtain⟨t',rfl⟩:=r2;exact isub_int ⟨.int _,H,I.tok _,⟨_,rfl⟩,q⟩
end
section
variable {X:Cx}{pos:Pos}
def Hh(c:TT)(tb:TS):TS:=λD σ H=>∃W:Nat→St→Hp→Prop,(∃m,W m σ H)∧∀m σ H,W m σ H→
 c σ H λb H1=>if b=true then∃N:St→Hp→Prop,(∀σ' H',N σ' H'→∃m',m'<m∧W m' σ' H')∧tb {D with nx:=N,ct:=N,bk:=D.nx} σ H1 else D.nx σ H1
theorem lh{c:Expr}{body:List Stmt}{tc:TT}{tb:TS}(hp:PassesOwn (model X.prog X.w) X.A X.env X.xe)(hc:PT X c tc)(hb:PSs X body tb):PS X (.While c body [] pos) (Hh tc tb):=by
 intro pins s σ H D I h;obtain⟨W,⟨m0,w0⟩,turn⟩:=h;refine wpAny_While (codeAny_whileLoop (λn s'=>∃σ' H',Inv X pins σ' H' s'∧W n σ' H') ?_ m0 ⟨σ,H,I,w0⟩);rintro n s1 ⟨σ1,H1,I1,w1⟩;refine wpAny_passesOwn hp (thn (hc pins s1 σ1 H1 _ I1 (turn n σ1 H1 w1)) λb s2⟨H2,I2,q2⟩=>?_);cases b with
 |true=>
  obtain⟨N,hN,q2⟩:=q2;rw[if_pos rfl];refine wpAny_passesOwn hp (thn (hb pins s2 σ1 H2 _ I2 q2) λf s3 q3=>?_);cases f with
  |next=>
   obtain⟨σ3,H3,I3,n3⟩:=q3;obtain⟨m',hm,w3⟩:=hN σ3 H3 n3;exact⟨m',hm,σ3,H3,I3,w3⟩
  |cont=>
   obtain⟨σ3,H3,I3,n3⟩:=q3;obtain⟨m',hm,w3⟩:=hN σ3 H3 n3;exact⟨m',hm,σ3,H3,I3,w3⟩
  |brk=>exact q3
  |ret v=>exact q3
 |false=>
  rw[if_neg Bool.false_ne_true];exact wpAny_execs_nil ⟨σ1,H2,I2,q2⟩
end
structure It where
 go:Nat→Hp→Prop
 yld:Nat→Hp→V→Hp→Prop
 stop:Nat→Hp→Prop
def w6(X:Cx)(pins:List (Addr×Obj))(H:Hp)(b:Addr):Prop:=
 H b=none∧b≠X.env.locals∧b∉X.fs∧(b∈X.ex∨X.s_0.heap.objs.size≤b)∧(∀x c,X.env.cells.lookup x=some c→c≠b)∧∀p∈X.pn++pins,p.1≠b
theorem Inv.Gu{X:Cx}{pins:List (Addr×Obj)}{σ:St}{H H':Hp}{s:Shared}{b:Addr}(I:Inv X pins σ H s)(hb:s.heap.objs.size≤b)(hn:H' b=none):w6 X pins H' b:=by
 refine⟨hn,Nat.ne_of_gt (Nat.lt_of_lt_of_le I.lt hb),I.K8 hb,.inr (Nat.le_trans I.sz hb),λx c e z=>?_,λp hp z=>?_⟩
 ·obtain⟨v,q⟩:=I.cell x c e;exact absurd (Nat.lt_of_lt_of_le q.lt (by rw[z];exact hb)) (Nat.lt_irrefl _)
 ·exact absurd (Nat.lt_of_lt_of_le (Heap.lt_size (I.pin p hp).1) (by rw[z];exact hb)) (Nat.lt_irrefl _)
structure Turn(P:Program)(w:World)(K:PySem.W.Frag)(tg:Expr)(J:It)(fp:List Addr)(it:Addr)(tn:Nat→Heap→Prop):Prop where
 mem:it∈fp
 obj:∀i h,tn i h→∀b∈fp,∃o,h.get? b=some o∧∀v,o.data≠.cell v
 keep:∀i h h',tn i h→(∀b∈fp,∀o,h.get? b=some o→h'.get? b=some o)→tn i h'
 item:∀(X:Cx),X.prog=P→X.w=w→X.K=K→X.calm=true→∀(i:Nat)(pins:List (Addr×Obj))(s:Shared)(σ:St)(H:Hp)(E:Value→Shared→Prop),Inv X pins σ H s→(∀b∈fp,w6 X pins H b)→tn i s.heap→J.go i H→
  wpAny (model P w) X.A (pyNext (.ref it)) (λr s1=>∃u,r=some u∧
   wpAny (model P w) X.A (letOwnedTupleGo tg (.ref it) u) (λ_ s2=>∃x H',Inv X pins σ H' s2∧RelV x u∧J.yld i H x H'∧tn (i+1) s2.heap∧∀b∈fp,H' b=none) E s1) E s
 done:∀(X:Cx),X.prog=P→X.w=w→X.K=K→X.calm=true→∀(i:Nat)(pins:List (Addr×Obj))(s:Shared)(σ:St)(H:Hp)(E:Value→Shared→Prop),Inv X pins σ H s→(∀b∈fp,w6 X pins H b)→tn i s.heap→J.stop i H→
  wpAny (model P w) X.A (pyNext (.ref it)) (λr s1=>r=none∧Inv X pins σ H s1) E s
 self:∀(A:Around)(i:Nat)(s:Shared)(Q:Value→Shared→Prop)(E:Value→Shared→Prop),tn i s.heap→Q (.ref it) s→wpAny (model P w) A (pyIter (.ref it)) Q E s
abbrev TI:=St→Hp→(It→Hp→Prop)→Prop
def PIE(X:Cx)(pins:List (Addr×Obj))(σ:St)(tg:Expr)(R:It→Hp→Prop)(itv:Value)(s2:Shared):Prop:=
 ∃(it:Addr)(fp:List Addr)(tn:Nat→Heap→Prop)(J:It)(H':Hp),itv=.ref it∧Inv X pins σ H' s2∧Turn X.prog X.w X.K tg J fp it tn∧tn 0 s2.heap∧(∀b∈fp,w6 X pins H' b)∧R J H'
def PI(X:Cx)(tg iter:Expr)(wi:TI):Prop:=
 ∀(pins:List (Addr×Obj))(s:Shared)(σ:St)(H:Hp)(R:It→Hp→Prop),Inv X pins σ H s→wi σ H R→
  wpAny (model X.prog X.w) X.A (eval iter X.env) (λv s1=>wpAny (model X.prog X.w) X.A (pyIter v) (PIE X pins σ tg R) X.xe s1) X.xe s
theorem gq{M:Model}{A:Around}{E:Value→Shared→Prop}{s:Shared}{tg:Expr}{it:Addr}{u:Value}{o:Obj}{n:String}{vs:Array Value}{Q:Unit→Shared→Prop}(ho:s.heap.get? it=some o)(hc:o.cls=.type n)(hd:o.data=.fields vs)
  (hn:["enumerate","zip","dict_itemiterator","dict_reverseitemiterator","odict_iterator","itertools.zip_longest","itertools.pairwise"].contains n=false)(hQ:Q () s):wpAny M A (letOwnedTupleGo tg (.ref it) u) Q E s:=by
 unfold letOwnedTupleGo;cases tg<;>first
  |exact wpAny_pure hQ
  |(cases u<;>first
    |exact wpAny_pure hQ
    |(refine wpAny_bind (wpAny_load ho ?_)
      rw[hc,hd];show wpAny M A (if(["enumerate","zip","dict_itemiterator","dict_reverseitemiterator","odict_iterator","itertools.zip_longest","itertools.pairwise"].contains n&&vs[0]?==some (rawInt _))=true then _ else _) Q E s
      rw[if_neg (by intro h;rw[hn,Bool.false_and]at h;cases h)]
      exact wpAny_pure hQ))
def Itl(K:PySem.W.Frag)(a:Addr):It:=
 ⟨λi H=>∃xs x,SqL K H a xs∧xs[i]?=some x,λi H x H'=>H'=H∧∀xs,SqL K H a xs→xs[i]?=some x,λi H=>∃xs,SqL K H a xs∧xs.length≤i⟩
def Itt(K:PySem.W.Frag)(a:Addr):It:=
 ⟨λi H=>∃xs x,SqT K H a xs∧xs[i]?=some x,λi H x H'=>H'=H∧∀xs,SqT K H a xs→xs[i]?=some x,λi H=>∃xs,SqT K H a xs∧xs.length≤i⟩
theorem Cv{P:Program}{w:World}{K:PySem.W.Frag}{tg:Expr}(a it:Addr):Turn P w K tg (Itl K a) [it] it (λi h=>h.IsListIter it a i) where
 mem:=by simp
 obj:=λi h st b hb=>by
  have e:b=it:=by simpa using hb
  subst e;obtain⟨o,e,c,d⟩:=st;exact⟨o,e,λv z=>by rw[d]at z;cases z⟩
 keep:=λi h h' st k=>st.at λo e=>k it (by simp) o e
 item:=by
  intro X hP hw hK hc i pins s σ H E I hf st hg;subst hP hw hK;obtain⟨xs,x,hq,hx⟩:=hg;obtain⟨its,rv,p,hz⟩:=I.list hq;obtain⟨u,hu,ru⟩:=rv.get hx;obtain⟨f0,f1,f2,f3,f4,f5⟩:=hf it (by simp)
  refine wpAny_pyNext_list_item st p.isList (x:=u) (by simpa using hu) λh' st' sb=>?_
  have I1:Inv X pins σ H {s with heap:=h'}:=I.turned (t':=s.toks) (λb o hb e=>(sb.2 b hb).trans e) f0 f1 f3 f4 f5
  obtain⟨o,e,c,d⟩:=id st';exact⟨u,rfl,gq (s:={s with heap:=h'}) e c d (by decide) ⟨x,H,I1,ru,⟨rfl,λys hy=>by rw[I.zS hy hq];exact hx⟩,st',λb hb=>(hf b hb).1⟩⟩
 done:=by
  intro X hP hw hK hc i pins s σ H E I hf st hg;subst hP hw hK;obtain⟨xs,hq,hx⟩:=hg;obtain⟨its,rv,p,hz⟩:=I.list hq;obtain⟨f0,f1,f2,f3,f4,f5⟩:=hf it (by simp)
  have hl:=rv.length;exact wpAny_pyNext_list_end (I.ok.hd hc) st p.isList (by simp;omega) λh' eb=>⟨rfl,I.turned (t':=s.toks) (λb o hb e=>eb b o hb e) f0 f1 f3 f4 f5⟩
 self:=λ_ _ _ _ _ st h=>wpAny_pyIter_listiter st h
theorem Au{P:Program}{w:World}{K:PySem.W.Frag}{tg:Expr}(a it:Addr):Turn P w K tg (Itt K a) [it] it (λi h=>h.IsTupleIter it a i) where
 mem:=by simp
 obj:=λi h st b hb=>by
  have e:b=it:=by simpa using hb
  subst e;obtain⟨o,e,c,d⟩:=st;exact⟨o,e,λv z=>by rw[d]at z;cases z⟩
 keep:=λi h h' st k=>st.at λo e=>k it (by simp) o e
 item:=by
  intro X hP hw hK hc i pins s σ H E I hf st hg;subst hP hw hK;obtain⟨xs,x,hq,hx⟩:=hg;obtain⟨its,rv,p,hz⟩:=I.tuple hq;obtain⟨u,hu,ru⟩:=rv.get hx;obtain⟨f0,f1,f2,f3,f4,f5⟩:=hf it (by simp)
  refine wpAny_pyNext_tuple_item st (show s.heap.IsTuple a its.toArray from p) (x:=u) (by simpa using hu) λh' st' sb=>?_
  have I1:Inv X pins σ H {s with heap:=h'}:=I.turned (t':=s.toks) (λb o hb e=>(sb.2 b hb).trans e) f0 f1 f3 f4 f5
  obtain⟨o,e,c,d⟩:=id st';exact⟨u,rfl,gq (s:={s with heap:=h'}) e c d (by decide) ⟨x,H,I1,ru,⟨rfl,λys hy=>by rw[I.Cw hy hq];exact hx⟩,st',λb hb=>(hf b hb).1⟩⟩
 done:=by
  intro X hP hw hK hc i pins s σ H E I hf st hg;subst hP hw hK;obtain⟨xs,hq,hx⟩:=hg;obtain⟨its,rv,p,hz⟩:=I.tuple hq;obtain⟨f0,f1,f2,f3,f4,f5⟩:=hf it (by simp)
  have hl:=rv.length;exact wpAny_pyNext_tuple_end (I.ok.hd hc) st (show s.heap.IsTuple a its.toArray from p) (by simp;omega) λh' eb=>⟨rfl,I.turned (t':=s.toks) (λb o hb e=>eb b o hb e) f0 f1 f3 f4 f5⟩
 self:=λ_ _ _ _ _ st h=>wpAny_pyIter_tupleiter st h
section
variable {X:Cx}{tg:Expr}
def B9(K:PySem.W.Frag)(tl:TE):TI:=λσ H R=>tl σ H λx H1=>∃a,x=.ref a∧(∃xs,SqL K H1 a xs)∧R (Itl K a) H1
def IL(K:PySem.W.Frag)(tl:TE):TI:=λσ H R=>tl σ H λx H1=>∃a,x=.ref a∧(∃xs,SqT K H1 a xs)∧R (Itt K a) H1
theorem j6{l:Expr}{tl:TE}(hl:PE X l tl):PI X tg l (B9 X.K tl):=by
 intro pins s σ H R I h;refine thn (hl pins s σ H _ I h) λv s1⟨x,H1,I1,r1,q1⟩=>?_;obtain⟨a,e,⟨xs,hq⟩,q⟩:=q1;subst e;cases r1;obtain⟨its,rv,p,hz⟩:=I1.list hq;refine wpAny_pyIter_list p.isList ?_;refine⟨s1.heap.objs.size,[s1.heap.objs.size],_,_,H1,rfl,I1.kept (t':=s1.toks) λb o e=>Heap.get?_push_of_some _ e,Cv a _,⟨_,Heap.get?_push_size _ rfl,rfl,rfl⟩,λb hb=>?_,q⟩;have e:b=s1.heap.objs.size:=by simpa using hb
 subst e;exact I1.Gu (Nat.le_refl _) (I1.hok.fresh (Nat.le_refl _))
theorem yo{l:Expr}{tl:TE}(hl:PE X l tl):PI X tg l (IL X.K tl):=by
 intro pins s σ H R I h;refine thn (hl pins s σ H _ I h) λv s1⟨x,H1,I1,r1,q1⟩=>?_;obtain⟨a,e,⟨xs,hq⟩,q⟩:=q1;subst e;cases r1;obtain⟨its,rv,p,hz⟩:=I1.tuple hq;refine wpAny_pyIter_tuple (show s1.heap.IsTuple a its.toArray from p) ?_;refine⟨s1.heap.objs.size,[s1.heap.objs.size],_,_,H1,rfl,I1.kept (t':=s1.toks) λb o e=>Heap.get?_push_of_some _ e,Au a _,⟨_,Heap.get?_push_size _ rfl,rfl,rfl⟩,λb hb=>?_,q⟩;have e:b=s1.heap.objs.size:=by simpa using hb
 subst e;exact I1.Gu (Nat.le_refl _) (I1.hok.fresh (Nat.le_refl _))
def Dz(wi:TI)(g:TG)(tb:TS):TS:=λD σ H=>wi σ H λJ H1=>∃W:Nat→Nat→St→Hp→Prop,(∃m,W 0 m σ H1)∧∀i m σ H,W i m σ H→
 (J.stop i H∧D.nx σ H)∨(J.go i H∧∃N:St→Hp→Prop,(∀σ' H',N σ' H'→∃m',m'<m∧W (i+1) m' σ' H')∧∀x H',J.yld i H x H'→g x σ H' λσ2 H2=>tb {D with nx:=N,ct:=N,bk:=D.nx} σ2 H2)
def vE(fp:List Addr)(h:Heap):List (Addr×Obj):=fp.filterMap λb=>(h.get? b).map λo=>(b,o)
theorem qU{fp:List Addr}{h:Heap}{b:Addr}{o:Obj}(hb:b∈fp)(e:h.get? b=some o):(b,o)∈vE fp h:=List.mem_filterMap.mpr ⟨b,hb,by rw[e];rfl⟩
theorem CQ{fp:List Addr}{h:Heap}{p:Addr×Obj}(hp:p∈vE fp h):p.1∈fp∧h.get? p.1=some p.2:=by
 obtain⟨b,hb,e⟩:=List.mem_filterMap.mp hp;cases q:h.get? b with
 |none=>rw[q]at e;cases e
 |some o=>
  rw[q]at e;have e':(b,o)=p:=Option.some.inj e;subst e';exact⟨hb,q⟩
theorem Inv.pinned{pins:List (Addr×Obj)}{σ:St}{H:Hp}{s:Shared}{fp:List Addr}(I:Inv X pins σ H s)(hf:∀b∈fp,w6 X pins H b)(ho:∀b∈fp,∃o,s.heap.get? b=some o∧∀v,o.data≠.cell v):Inv X (pins++vE fp s.heap) σ H s:=
 I.BS λp hp=>(List.mem_append.mp hp).elim (λz=>I.pin p (List.mem_append_right _ z)) λz=>by
  obtain⟨hb,e⟩:=CQ z;obtain⟨f0,f1,f2,_⟩:=hf p.1 hb;obtain⟨o,e',d⟩:=ho p.1 hb;rw[e]at e';cases e';exact⟨e,f0,f1,f2,d⟩
theorem Inv.rj{pins pl:List (Addr×Obj)}{σ:St}{H:Hp}{s:Shared}(I:Inv X (pins++pl) σ H s):Inv X pins σ H s:=I.BS λp hp=>I.pin p (List.mem_append_right _ (List.mem_append_left _ hp))
theorem qN{iter:Expr}{body:List Stmt}{wi:TI}{g:TG}{tb:TS}{pos:Pos}(hp:PassesOwn (model X.prog X.w) X.A X.env X.xe)(hc:X.calm=true)(hi:PI X tg iter wi)(hg:PG X tg g)(hb:PSs X body tb)
  (hs:∀x,foldedSetIterable iter X.env x=pure x:=by intro _;rfl):PS X (.For tg iter body [] pos) (Dz wi g tb):=by
 intro pins s σ H D I h;refine wpAny_For (thn (hi pins s σ H _ I h) λv s1 h1=>thn h1 λitv s2 h2=>?_) hs;obtain⟨it,fp,tn,J,H2,e,I2,T,st2,f2,W,⟨m0,w0⟩,turn⟩:=h2;subst e;have stat:∀{H':Hp},(∀b∈fp,H' b=none)→∀b∈fp,w6 X pins H' b:=λhn b hb=>⟨hn b hb,(f2 b hb).2⟩;refine codeAny_forLoop_any (λn s'=>∃i σ' H',Inv X pins σ' H' s'∧tn i s'.heap∧(∀b∈fp,H' b=none)∧W i n σ' H') ?_ m0 ⟨0,σ,H2,I2,st2,λb hb=>(f2 b hb).1,w0⟩;rintro n s3 ⟨i,σ3,H3,I3,st3,fr3,w3⟩;rcases turn i n σ3 H3 w3 with⟨stop,qn⟩|⟨go,N,hN,step⟩
 ·refine wpAny_passesOwn hp (thn (T.done X rfl rfl rfl hc i pins s3 σ3 H3 X.xe I3 (stat fr3) st3 stop) λr s4⟨hr,I4⟩=>?_);subst hr;exact wpAny_execs_nil ⟨σ3,H3,I4,qn⟩
 ·refine wpAny_passesOwn hp (thn (T.item X rfl rfl rfl hc i pins s3 σ3 H3 X.xe I3 (stat fr3) st3 go) λr s4⟨u,hr,h4⟩=>?_);subst hr;refine wpAny_passesOwn hp (thn h4 λ_ s5⟨x,H5,I5,r5,y5,st5,fr5⟩=>?_);have I5':=I5.pinned (stat fr5) (T.obj _ _ st5);refine wpAny_passesOwn hp (thn (hg _ s5 σ3 H5 x u _ I5' r5 (step x H5 y5)) λ_ s6⟨σ6,H6,I6,q6⟩=>?_);refine wpAny_passesOwn hp (thn (hb _ s6 σ6 H6 _ I6 q6) λf s7 q7=>?_);have again:∀{σ7:St}{H7:Hp},Inv X (pins++vE fp s5.heap) σ7 H7 s7→N σ7 H7→∃m,m<n∧∃i σ' H',Inv X pins σ' H' s7∧tn i s7.heap∧(∀b∈fp,H' b=none)∧W i m σ' H':=λ{σ7 H7}I7 n7=>by
   obtain⟨m',hm,w7⟩:=hN σ7 H7 n7;refine⟨m',hm,i+1,σ7,H7,I7.rj,T.keep _ _ _ st5 λb hb o e=>(I7.pin (b,o) (List.mem_append_right _ (List.mem_append_right _ (qU hb e)))).1,λb hb=>?_,w7⟩;obtain⟨o,e,d⟩:=T.obj _ _ st5 b hb;exact(I7.pin (b,o) (List.mem_append_right _ (List.mem_append_right _ (qU hb e)))).2.1
  cases f with
  |next=>obtain⟨σ7,H7,I7,n7⟩:=q7;exact again I7 n7
  |cont=>obtain⟨σ7,H7,I7,n7⟩:=q7;exact again I7 n7
  |brk=>obtain⟨σ7,H7,I7,q7⟩:=q7;exact⟨σ7,H7,I7.rj,q7⟩
  |ret v=>obtain⟨x7,σ7,H7,I7,r7,q7⟩:=q7;exact⟨x7,σ7,H7,I7.rj,r7,q7⟩
end
theorem wc{K:PySem.W.Frag}{a:Addr}{xs:List V}{g:TG}{tb:TS}{D:Ends}{σ:St}{H:Hp}(Pv:Nat→St→Hp→Prop)(h0:Pv 0 σ H)(hl:∀i σ H,i≤xs.length→Pv i σ H→SqL K H a xs)
  (hs:∀i x σ H,xs[i]?=some x→Pv i σ H→g x σ H λσ2 H2=>tb {D with nx:=Pv (i+1),ct:=Pv (i+1),bk:=D.nx} σ2 H2)(hd:∀σ H,Pv xs.length σ H→D.nx σ H):
  ∃W:Nat→Nat→St→Hp→Prop,(∃m,W 0 m σ H)∧∀i m σ H,W i m σ H→
   ((Itl K a).stop i H∧D.nx σ H)∨((Itl K a).go i H∧∃N:St→Hp→Prop,(∀σ' H',N σ' H'→∃m',m'<m∧W (i+1) m' σ' H')∧∀x H',(Itl K a).yld i H x H'→g x σ H' λσ2 H2=>tb {D with nx:=N,ct:=N,bk:=D.nx} σ2 H2):=by
 refine⟨λi m σ H=>m=xs.length-i∧i≤xs.length∧Pv i σ H,⟨xs.length,by simp,Nat.zero_le _,h0⟩,?_⟩
 rintro i m σ H ⟨rfl,hi,p⟩;have q:=hl i σ H hi p
 by_cases hlt:i<xs.length
 ·refine .inr ⟨⟨xs,xs[i],q,by simp[hlt]⟩,Pv (i+1),λσ' H' p'=>⟨xs.length-(i+1),by omega,rfl,hlt,p'⟩,λx H' y=>?_⟩
  obtain⟨e,y⟩:=y;subst e;exact hs i x σ _ (y xs q) p
 ·have e:i=xs.length:=by omega
  subst e;exact .inl ⟨⟨xs,q,Nat.le_refl _⟩,hd σ H p⟩
theorem Gv{K:PySem.W.Frag}{a:Addr}{xs:List V}{g:TG}{tb:TS}{D:Ends}{σ:St}{H:Hp}(Pv:Nat→St→Hp→Prop)(h0:Pv 0 σ H)(hl:∀i σ H,i≤xs.length→Pv i σ H→SqT K H a xs)
  (hs:∀i x σ H,xs[i]?=some x→Pv i σ H→g x σ H λσ2 H2=>tb {D with nx:=Pv (i+1),ct:=Pv (i+1),bk:=D.nx} σ2 H2)(hd:∀σ H,Pv xs.length σ H→D.nx σ H):
  ∃W:Nat→Nat→St→Hp→Prop,(∃m,W 0 m σ H)∧∀i m σ H,W i m σ H→
   ((Itt K a).stop i H∧D.nx σ H)∨((Itt K a).go i H∧∃N:St→Hp→Prop,(∀σ' H',N σ' H'→∃m',m'<m∧W (i+1) m' σ' H')∧∀x H',(Itt K a).yld i H x H'→g x σ H' λσ2 H2=>tb {D with nx:=N,ct:=N,bk:=D.nx} σ2 H2):=by
 refine⟨λi m σ H=>m=xs.length-i∧i≤xs.length∧Pv i σ H,⟨xs.length,by simp,Nat.zero_le _,h0⟩,?_⟩
 rintro i m σ H ⟨rfl,hi,p⟩;have q:=hl i σ H hi p
 by_cases hlt:i<xs.length
 ·refine .inr ⟨⟨xs,xs[i],q,by simp[hlt]⟩,Pv (i+1),λσ' H' p'=>⟨xs.length-(i+1),by omega,rfl,hlt,p'⟩,λx H' y=>?_⟩
  obtain⟨e,y⟩:=y;subst e;exact hs i x σ _ (y xs q) p
 ·have e:i=xs.length:=by omega
  subst e;exact .inl ⟨⟨xs,q,Nat.le_refl _⟩,hd σ H p⟩
abbrev R2:=V→V→Hp→VK→Prop
def OpR(X:Cx)(f:Value→Value→Sem Value)(r:R2):Prop:=
 ∀(pins:List (Addr×Obj))(s:Shared)(σ:St)(H:Hp)(x y:V)(v u:Value)(Q:VK),Inv X pins σ H s→RelV x v→RelV y u→r x y H Q→
  wpAny (model X.prog X.w) X.A (f v u) (EP X pins σ Q) X.xe s
def UnR(X:Cx)(f:Value→Sem Value)(r:V→Hp→VK→Prop):Prop:=
 ∀(pins:List (Addr×Obj))(s:Shared)(σ:St)(H:Hp)(x:V)(v:Value)(Q:VK),Inv X pins σ H s→RelV x v→r x H Q→
  wpAny (model X.prog X.w) X.A (f v) (EP X pins σ Q) X.xe s
def sN(X:Cx)(f:Value)(r:List V→Hp→VK→Prop):Prop:=
 ∀(pins:List (Addr×Obj))(s:Shared)(σ:St)(H:Hp)(xs:List V)(us:List Value)(Q:VK),Inv X pins σ H s→Vals xs us→r xs H Q→
  wpAny (model X.prog X.w) X.A (call f us) (EP X pins σ Q) X.xe s
def tOp(r:R2)(ta tb:TE):TE:=λσ H Q=>ta σ H λx H1=>tb σ H1 λy H2=>r x y H2 Q
def tUn(r:V→Hp→VK→Prop)(ta:TE):TE:=λσ H Q=>ta σ H λx H1=>r x H1 Q
def rI0(g:Int→Int→V):R2:=λx y H Q=>∃i j,x=.int i∧y=.int j∧Q (g i j) H
def rU(g:Int→V):V→Hp→VK→Prop:=λx H Q=>∃i,x=.int i∧Q (g i) H
section
variable {X:Cx}{a b c:Expr}{ta tb tc:TE}{pos:Pos}
theorem Jg(ha:PE X a ta)(hb:PE X b tb){pins:List (Addr×Obj)}{s:Shared}{σ:St}{H:Hp}{R:V→V→Hp→Prop}(I:Inv X pins σ H s)
  (h:ta σ H λx H1=>tb σ H1 λy H2=>R x y H2){Q:Value→Shared→Prop}{f:Value→Value→Sem Value}
  (hf:∀v u s2 x y H2,Inv X pins σ H2 s2→RelV x v→RelV y u→R x y H2→wpAny (model X.prog X.w) X.A (f v u) Q X.xe s2):
  wpAny (model X.prog X.w) X.A (eval a X.env) (λv s₁=>wpAny (model X.prog X.w) X.A (eval b X.env) (λu s₂=>wpAny (model X.prog X.w) X.A (f v u) Q X.xe s₂) X.xe s₁) X.xe s:=by
 refine thn (ha pins s σ H _ I h) λv s1⟨x,H1,I1,r1,q1⟩=>?_;refine thn (hb pins s1 σ H1 _ I1 q1) λu s2⟨y,H2,I2,r2,q2⟩=>?_;exact hf v u s2 x y H2 I2 r1 r2 q2
theorem eM{op:Operator}{r:R2}(ho:OpR X (binaryOp op) r)(ha:PE X a ta)(hb:PE X b tb):PE X (.BinOp a op b pos) (tOp r ta tb):=by
 intro pins s σ H Q I h;exact wpAny_BinOp (Jg ha hb I h λv u s2 x y H2 I2 rx ry q=>ho pins s2 σ H2 x y v u Q I2 rx ry q)
theorem dN{op:UnaryOp}{r:V→Hp→VK→Prop}(ho:UnR X (unaryOp op) r)(ha:PE X a ta):PE X (.UnaryOp op a pos) (tUn r ta):=by
 intro pins s σ H Q I h;exact UnaryOp_ (thn (ha pins s σ H _ I h) λv s1⟨x,H1,I1,r1,q1⟩=>ho pins s1 σ H1 x v Q I1 r1 q1)
theorem Kb{f:Value→Value→Sem Value}{g:Int→Int→Int}
  (rule:∀(i j:Int)(t u:Tok)(s:Shared)(Q:Value→Shared→Prop)(E:Value→Shared→Prop),Q (.int (g i j) s.toks) {s with toks:=s.toks+1}→wpAny (model X.prog X.w) X.A (f (.int i t) (.int j u)) Q E s):
  OpR X f (rI0 λi j=>.int (g i j)):=by
 intro pins s σ H x y v u Q I rx ry h;obtain⟨i,j,rfl,rfl,q⟩:=h;obtain⟨t,rfl⟩:=rx;obtain⟨t',rfl⟩:=ry;exact rule i j t t' s _ _ ⟨.int (g i j),H,I.tok _,⟨_,rfl⟩,q⟩
theorem F4{f:Value→Value→Sem Value}{g:Int→Int→Bool}
  (rule:∀(i j:Int)(t u:Tok)(s:Shared)(Q:Value→Shared→Prop)(E:Value→Shared→Prop),Q (.bool (g i j)) s→wpAny (model X.prog X.w) X.A (f (.int i t) (.int j u)) Q E s):
  OpR X f (rI0 λi j=>.bl (g i j)):=by
 intro pins s σ H x y v u Q I rx ry h;obtain⟨i,j,rfl,rfl,q⟩:=h;obtain⟨t,rfl⟩:=rx;obtain⟨t',rfl⟩:=ry;exact rule i j t t' s _ _ ⟨.bl (g i j),H,I,rfl,q⟩
theorem iR:OpR X (binaryOp .Add) (rI0 λi j=>.int (i+j)):=Kb λ_ _ _ _ _ _ _ q=>add_int q
theorem vK:OpR X (binaryOp .Sub) (rI0 λi j=>.int (i-j)):=Kb λ_ _ _ _ _ _ _ q=>sub_int q
theorem unI{f:Value→Sem Value}{g:Int→Int}
  (rule:∀(i:Int)(t:Tok)(s:Shared)(Q:Value→Shared→Prop)(E:Value→Shared→Prop),Q (.int (g i) s.toks) {s with toks:=s.toks+1}→wpAny (model X.prog X.w) X.A (f (.int i t)) Q E s):
  UnR X f (rU λi=>.int (g i)):=by
 intro pins s σ H x v Q I rx h;obtain⟨i,rfl,q⟩:=h;obtain⟨t,rfl⟩:=rx;exact rule i t s _ _ ⟨.int (g i),H,I.tok _,⟨_,rfl⟩,q⟩
theorem cf:UnR X (unaryOp .USub) (rU λi=>.int (-i)):=unI λ_ _ _ _ _ q=>neg_int q
end
def JM:V→V→Bool
 |.non,.non=>true|.non,.int _=>true|.int _,.non=>true|.non,.bl _=>true|.bl _,.non=>true|.non,.str _=>true|.str _,.non=>true
 |.int _,.int _=>true|.bl _,.bl _=>true|.str _,.str _=>true|.byt _,.byt _=>true
 |.int _,.str _=>true|.str _,.int _=>true|.bl _,.str _=>true|.str _,.bl _=>true
 |_,_=>false
def rEq:R2:=λx y H Q=>JM x y=true∧Q (.bl (decide (x=y))) H
def rNe:R2:=λx y H Q=>JM x y=true∧Q (.bl (!decide (x=y))) H
theorem Cm{i j:Int}:decide (V.int i=V.int j)=(i==j):=by
 rw[Bool.eq_iff_iff];simp
theorem EV{i j:Bool}:decide (V.bl i=V.bl j)=(i==j):=by
 rw[Bool.eq_iff_iff];simp
theorem Ck{i j:Str}:decide (V.str i=V.str j)=(i==j):=by
 rw[Bool.eq_iff_iff];simp
theorem Cn{i j:Array UInt8}:decide (V.byt i=V.byt j)=(i.toList==j.toList):=by
 rw[Bool.eq_iff_iff];cases i;cases j;simp
section
variable {X:Cx}{a b c:Expr}{ta tb tc:TE}{pos:Pos}
theorem bA{pins:List (Addr×Obj)}{σ:St}{H:Hp}{s:Shared}{Q:VK}{k k':Bool}(I:Inv X pins σ H s)(q:Q (.bl k) H)(e:k=k'):EP X pins σ Q (.bool k') s:=by
 subst e;exact⟨.bl k,H,I,rfl,q⟩
theorem bh:OpR X (compareOp .Eq) rEq:=by
 intro pins s σ H x y v u Q I rx ry h;obtain⟨hs,q⟩:=h;cases x with
 |non=>
  cases rx;cases y with
  |non=>cases ry;exact PySem.EqNone.eq_none_none (bA I q (by simp))
  |bl j=>cases ry;exact PySem.EqNone.eq_none_bool (bA I q (by simp))
  |int j=>obtain⟨t',rfl⟩:=ry;exact PySem.EqNone.eq_none_int (bA I q (by simp))
  |str j=>obtain⟨t',rfl⟩:=ry;exact PySem.EqNone.eq_none_str (bA I q (by simp))
  |_=>exact absurd (show false=true from hs) Bool.false_ne_true
 |bl i=>
  cases rx;cases y with
  |non=>cases ry;exact PySem.EqNone.eq_bool_none (bA I q (by simp))
  |bl j=>cases ry;exact eq_bool (bA I q EV)
  |str j=>obtain⟨t',rfl⟩:=ry;exact PySem.EqMixed.eq_bool_str (bA I q (by simp))
  |_=>exact absurd (show false=true from hs) Bool.false_ne_true
 |int i=>
  obtain⟨t,rfl⟩:=rx;cases y with
  |non=>cases ry;exact PySem.EqNone.eq_int_none (bA I q (by simp))
  |int j=>obtain⟨t',rfl⟩:=ry;exact eq_int (bA I q Cm)
  |str j=>obtain⟨t',rfl⟩:=ry;exact PySem.EqMixed.eq_int_str (bA I q (by simp))
  |_=>exact absurd (show false=true from hs) Bool.false_ne_true
 |str i=>
  obtain⟨t,rfl⟩:=rx;cases y with
  |non=>cases ry;exact PySem.EqNone.eq_str_none (bA I q (by simp))
  |bl j=>cases ry;exact PySem.EqMixed.eq_str_bool (bA I q (by simp))
  |int j=>obtain⟨t',rfl⟩:=ry;exact PySem.EqMixed.eq_str_int (bA I q (by simp))
  |str j=>obtain⟨t',rfl⟩:=ry;exact eq_str (bA I q Ck)
  |_=>exact absurd (show false=true from hs) Bool.false_ne_true
 |byt i=>
  obtain⟨t,rfl⟩:=rx;cases y with
  |byt j=>obtain⟨t',rfl⟩:=ry;exact PySem.W.eq_bytes (bA I q Cn)
  |_=>exact absurd (show false=true from hs) Bool.false_ne_true
 |_=>cases y<;>exact absurd (show false=true from hs) Bool.false_ne_true
theorem Eh:OpR X (compareOp .NotEq) rNe:=by
 intro pins s σ H x y v u Q I rx ry h;obtain⟨hs,q⟩:=h;cases x with
 |non=>
  cases rx;cases y with
  |non=>cases ry;exact PySem.EqNone.ne_none_none (bA I q (by simp))
  |bl j=>cases ry;exact PySem.EqNone.ne_none_bool (bA I q (by simp))
  |int j=>obtain⟨t',rfl⟩:=ry;exact PySem.EqNone.ne_none_int (bA I q (by simp))
  |str j=>obtain⟨t',rfl⟩:=ry;exact PySem.EqNone.ne_none_str (bA I q (by simp))
  |_=>exact absurd (show false=true from hs) Bool.false_ne_true
 |bl i=>
  cases rx;cases y with
  |non=>cases ry;exact PySem.EqNone.ne_bool_none (bA I q (by simp))
  |bl j=>cases ry;exact ne_bool (bA I q (congrArg not EV))
  |str j=>obtain⟨t',rfl⟩:=ry;exact PySem.EqMixed.ne_bool_str (bA I q (by simp))
  |_=>exact absurd (show false=true from hs) Bool.false_ne_true
 |int i=>
  obtain⟨t,rfl⟩:=rx;cases y with
  |non=>cases ry;exact PySem.EqNone.ne_int_none (bA I q (by simp))
  |int j=>obtain⟨t',rfl⟩:=ry;exact ne_int (bA I q (congrArg not Cm))
  |str j=>obtain⟨t',rfl⟩:=ry;exact PySem.EqMixed.ne_int_str (bA I q (by simp))
  |_=>exact absurd (show false=true from hs) Bool.false_ne_true
 |str i=>
  obtain⟨t,rfl⟩:=rx;cases y with
  |non=>cases ry;exact PySem.EqNone.ne_str_none (bA I q (by simp))
  |bl j=>cases ry;exact PySem.EqMixed.ne_str_bool (bA I q (by simp))
  |int j=>obtain⟨t',rfl⟩:=ry;exact PySem.EqMixed.ne_str_int (bA I q (by simp))
  |str j=>obtain⟨t',rfl⟩:=ry;exact ne_str (bA I q (congrArg not Ck))
  |_=>exact absurd (show false=true from hs) Bool.false_ne_true
 |byt i=>
  obtain⟨t,rfl⟩:=rx;cases y with
  |byt j=>obtain⟨t',rfl⟩:=ry;exact PySem.W.ne_bytes (bA I q (congrArg not Cn))
  |_=>exact absurd (show false=true from hs) Bool.false_ne_true
 |_=>cases y<;>exact absurd (show false=true from hs) Bool.false_ne_true
theorem vL:OpR X (compareOp .Lt) (rI0 λi j=>.bl (decide (i<j))):=F4 λ_ _ _ _ _ _ _ q=>lt_int q
theorem xt:OpR X (compareOp .LtE) (rI0 λi j=>.bl (decide (i≤j))):=F4 λ_ _ _ _ _ _ _ q=>le_int q
theorem p8:OpR X (compareOp .Gt) (rI0 λi j=>.bl (decide (j<i))):=F4 λ_ _ _ _ _ _ _ q=>gt_int q
theorem BV:OpR X (compareOp .GtE) (rI0 λi j=>.bl (decide (j≤i))):=F4 λ_ _ _ _ _ _ _ q=>ge_int q
theorem aB(b:Expr){op:CmpOp}(h:op≠.In:=by decide)(h2:op≠.NotIn:=by decide):behindInMarks op b=false:=by
 have e1:(op==CmpOp.In)=false:=by cases op<;>first|rfl|exact absurd rfl h
 have e2:(op==CmpOp.NotIn)=false:=by cases op<;>first|rfl|exact absurd rfl h2
 cases b<;>simp[behindInMarks,e1,e2]
theorem bK{op:CmpOp}{r:R2}(ho:OpR X (compareOp op) r)(ha:PE X a ta)(hb:PE X b tb)(hm:behindInMarks op b=false):PE X (.Compare a [op] [b] pos) (tOp r ta tb):=by
 intro pins s σ H Q I h;exact wpAny_Compare1 (Jg ha hb I h λv u s2 x y H2 I2 rx ry q=>ho pins s2 σ H2 x y v u Q I2 rx ry q) hm
def xg(t:TE):TT:=λσ H Q=>t σ H λx H'=>∃k,x=.bl k∧Q k H'
theorem az{op:CmpOp}{r:R2}(ho:OpR X (compareOp op) r)(ha:PE X a ta)(hb:PE X b tb)(hm:behindInMarks op b=false):PT X (.Compare a [op] [b] pos) (xg (tOp r ta tb)):=by
 intro pins s σ H Q I h;refine wpAny_isTrue_Compare1 (thn (ha pins s σ H _ I h) λv s1⟨x,H1,I1,r1,q1⟩=>thn (hb pins s1 σ H1 _ I1 q1) λu s2⟨y,H2,I2,r2,q2⟩=>
  thn (ho pins s2 σ H2 x y v u _ I2 r1 r2 q2) λc s3⟨z,H3,I3,r3,k,e,q3⟩=>?_) hm
 subst e;cases r3;exact wpAny_truthy_bool ⟨H3,I3,q3⟩
def DA(r r':R2)(ta tb tc:TE):TE:=λσ H Q=>ta σ H λx H1=>tb σ H1 λy H2=>r x y H2 λz H3=>∃k,z=.bl k∧
 (if k=true then tc σ H3 λw' H4=>r' y w' H4 Q else Q (.bl false) H3)
theorem vG{op op':CmpOp}{r r':R2}(ho:OpR X (compareOp op) r)(ho':OpR X (compareOp op') r')(ha:PE X a ta)(hb:PE X b tb)(hc:PE X c tc)
  (hm:lastMarks [op,op'] [b,c]=false:=by with_unfolding_all rfl):PE X (.Compare a [op,op'] [b,c] pos) (DA r r' ta tb tc):=by
 intro pins s σ H Q I h;refine Compare_chain (thn (ha pins s σ H _ I h) λv s1⟨x,H1,I1,r1,q1⟩=>chain_link (thn (hb pins s1 σ H1 _ I1 q1) λu s2⟨y,H2,I2,r2,q2⟩=>
  thn (ho pins s2 σ H2 x y v u _ I2 r1 r2 q2) λd s3⟨z,H3,I3,r3,k,e,q3⟩=>?_)) hm
 subst e;cases r3;refine wpAny_truthy_bool ?_;cases k with
 |false=>exact ite_ff ⟨.bl false,H3,I3,rfl,q3⟩
 |true=>exact ite_tt (chain_last (thn (hc pins s3 σ H3 _ I3 q3) λw' s4⟨z',H4,I4,r4,q4⟩=>ho' pins s4 σ H4 y z' u w' Q I4 r2 r4 q4))
theorem A1:(sizeLine:Nat)<2^63:=by rw[sizeLine_eq];decide
theorem vals1{x:V}{us:List Value}(r:Vals [x] us):∃u,us=[u]∧RelV x u:=by
 cases r with
 |cons r1 r2=>cases r2;exact⟨_,rfl,r1⟩
theorem vals2{x y:V}{us:List Value}(r:Vals [x,y] us):∃u w',us=[u,w']∧RelV x u∧RelV y w':=by
 cases r with
 |cons r1 r2=>
  cases r2 with
  |cons r3 r4=>cases r4;exact⟨_,_,rfl,r1,r3⟩
theorem Di(hc:X.calm=true):sN X (.builtin "min") (λxs H Q=>∃i j,xs=[.int i,.int j]∧Q (.int (if j<i then j else i)) H):=by
 intro pins s σ H xs us Q I r h;obtain⟨i,j,rfl,q⟩:=h;obtain⟨u,w',rfl,⟨t,rfl⟩,⟨t',rfl⟩⟩:=vals2 r;refine min_two_ints (I.ok.hd hc) λh' tk k=>⟨_,H,I.kept k,?_,q⟩
 by_cases hj:j<i
 ·rw[if_pos hj,if_pos hj];exact⟨_,rfl⟩
 ·rw[if_neg hj,if_neg hj];exact⟨_,rfl⟩
theorem sy:sN X (.builtin "ord") (λxs H Q=>∃x,xs=[.str x]∧x.length=1∧Q (.int (x.cps.getD 0 0:Nat)) H):=by
 intro pins s σ H xs us Q I r h;obtain⟨x,rfl,hz,q⟩:=h;obtain⟨u,rfl,t,rfl⟩:=vals1 r;exact ord_of_one hz ⟨.int _,H,I.tok _,⟨_,rfl⟩,q⟩
end
structure Bt(h:Heap)(x dx C:Addr)(mA:Str→Option Value):Prop where
 obj:h.get? x=some (PySem.W.instObj C dx)
 ns:h.Ns1 dx mA
 ne:dx≠x
theorem xC{h:Heap}{dx:Addr}{mA:Str→Option Value}(n:h.Ns1 dx mA):∃od,h.get? dx=some od∧∀name,PySem.W.lookIn name od=some (mA name):=by
 obtain⟨o,es,ep,ho,hd,hk,_,hm⟩:=n;refine⟨o,ho,λname=>?_⟩;have e:=hm name;unfold nsFind findBy at e;rw[←Array.find?_toList]at e;unfold PySem.W.lookIn;rw[hd];dsimp only
 split
 ·rename_i y q;rw[q]at e;exact congrArg some e
 ·rename_i q;rw[q]at e;have a:es.toList.any (·.refKey)=false:=by
   rw[List.any_eq_false];intro y hy;obtain⟨z,t,hkey⟩:=hk y (Array.mem_toList_iff.mp hy);simp[DictEntry.refKey,hkey]
  have a':¬es.toList.any (·.refKey)=true:=by rw[a];exact Bool.false_ne_true
  rw[if_neg a'];exact congrArg some e
theorem Bt.look{h:Heap}{x dx C:Addr}{mA:Str→Option Value}(I:Bt h x dx C mA):∃od,PySem.W.InstAt h x (PySem.W.instObj C dx) C (some od)∧∀name,PySem.W.lookIn name od=some (mA name):=
 let⟨od,ho,hl⟩:=xC I.ns
 ⟨od,⟨I.obj,rfl,rfl,ho⟩,hl⟩
section
variable {prog:Program}{w:World}{A:Around}{E:Value→Shared→Prop}{s:Shared}{K:PySem.W.Frag}{x dx C f:Addr}{mA:Str→Option Value}{name:Str}{v:Value}
theorem get_map{expr:Bool}{Q:Value→Shared→Prop}(X:K.In s.heap)(I:Bt s.heap x dx C mA)(hg:PySem.W.plainGet K C name=true)(hh:PySem.W.hasDictIn K C=true)
  (ha:PySem.W.findIn K (.ref C) name=some none)(hv:mA name=some v)(hv':PySem.W.handedIn v=true)(h:Q v {s with toks:=s.toks+1}):
  wpAny (model prog w) A (getAttr (.ref x) name expr) Q E s:=by
 obtain⟨od,J,hl⟩:=I.look;exact PySem.W.get_value X J (PySem.W.plainGet_of hg).1 (PySem.W.findObj_own hh ha rfl (by rw[hl,hv])) hv' h
theorem EL{pl:Sem Bool}{Q:Value×List Value→Shared→Prop}(X:K.In s.heap)(I:Bt s.heap x dx C mA)(hg:PySem.W.plainGet K C name=true)
  (hf:PySem.W.findIn K (.ref C) name=some (some (.ref f)))(ht:PySem.W.isFn K (.ref f)=true)(hv:mA name=none)(h:Q (.ref f,[.ref x]) s):
  wpAny (model prog w) A (getMethod (.ref x) name pl) Q E s:=by
 obtain⟨od,J,hl⟩:=I.look;exact PySem.W.method_fn X J (PySem.W.plainGet_of hg).1 (PySem.W.plainGet_of hg).2 hf (beq_iff_eq.mp ht) (by show(PySem.W.lookIn name od).map (·.isSome)=some false;rw[hl,hv];rfl) h
theorem Fw{ns:List Str}{Q:Unit→Shared→Prop}(X:K.In s.heap)(I:Bt s.heap x dx C mA)
  (hs:PySem.W.findIn K (.ref C) "__setattr__"=some (some (.builtin "object.__setattr__")))(hp:PySem.W.plainOver K C=true)(ht:PySem.W.takerIn K C name=some none)(hh:PySem.W.hasDictIn K C=true)
  (hw:PySem.Within mA ns)(hsz:ns.length≤sizeLine)
  (h:∀h',Bt h' x dx C (λy=>if y=name then some v else mA y)→Heap.SameBut dx s.heap h'→Q () {s with heap:=h',toks:=s.toks+2}):
  wpAny (model prog w) A (setAttr (.ref x) name v) Q E s:=by
 obtain⟨od,J,hl⟩:=I.look;refine PySem.W.set_plain X J hs (PySem.W.osa_open (s:={s with toks:=s.toks+1}) (r:=none) X J hp ht λb=>?_)
 obtain⟨cd,hc,hd'⟩:=PySem.W.any_some hh;have hx:s.heap.get? x=some ⟨.ref C,some dx,.plain,#[]⟩:=I.obj;refine wpAny_bind (wpAny_pure (wpAny_bind (wpAny_bind (wpAny_loadPart hx (wpAny_bind (PySem.W.Looks.here (s:={s with toks:=s.toks+1}) (PySem.W.looks_clsIn X hc) ?_))))))
 rw[hd'];refine wpAny_pure (a:=some dx) (wpAny_bind (wpAny_pure (wpAny_bind ?_)));refine wpAny_nsSet1 (s:={s with toks:=s.toks+1}) I.ns λh' hn2 hs2=>?_
 obtain⟨oD,esD,epD,hoD,hdD,hcD⟩:=hn2.count (PySem.Within.cons name v hw);refine wpAny_bind (wpAny_lookBehind hoD (by rw[hdD];exact pastItsLine_dict (Nat.le_trans hcD (by rw[List.length_cons];omega))) ?_)
 exact wpAny_pure (h _ ⟨(hs2.2 _ (Ne.symm I.ne)).trans I.obj,hn2,I.ne⟩ hs2)
theorem Eo{R:Result→Shared→Prop}{vs:List Value}{kw:List (Str×Value)}(X:K.In s.heap)(hm:PySem.W.makesIn K C=true)
  (hi:PySem.W.findIn K (.ref C) "__init__"=some (some (.ref f)))(hf:PySem.W.typeIn K (.ref f)=some (.type "function"))
  (h:codeAny (model prog w) (A.under (.builtin "type.__call__" ⟨.ref C::vs,kw⟩)) (.call (.ref f) ⟨.ref (s.heap.objs.size+1)::vs,kw⟩) (PySem.W.InitBack (s.heap.objs.size+1) R)
   {s with heap:=(s.heap.push PySem.W.emptyDict).push (PySem.W.instObj C s.heap.objs.size)}):
  codeAny (model prog w) A (.call (.ref C) ⟨vs,kw⟩) R s:=by
 obtain⟨hh,g,d,t,os⟩:=s;exact PySem.W.make_core (PySem.W.makes_of X hm) (PySem.W.looks_findIn X hi) (λself=>PySem.W.bind_fn X self hf) (.inl rfl) h
end
def e9(f:Str)(v:V):List (Str×V)→List (Str×V)
 |[]=>[(f,v)]
 |(g,x)::r=>if g=f then(g,v)::r else(g,x)::e9 f v r
theorem uv(f g:Str)(v:V):∀fs:List (Str×V),(e9 f v fs).lookup g=if g=f then some v else fs.lookup g
 |[]=>by
  show List.lookup g [(f,v)]=_
  by_cases h:g=f
  ·have hb:(g==f)=true:=beq_iff_eq.mpr h;simp only[List.lookup,hb,if_pos h]
  ·have hb:(g==f)=false:=beq_eq_false_iff_ne.mpr h;simp only[List.lookup,hb,if_neg h]
 |(k,x)::r=>by
  have ih:=uv f g v r;rw[show e9 f v ((k,x)::r)=(if k=f then(k,v)::r else(k,x)::e9 f v r)from rfl]
  by_cases hk:k=f
  ·rw[if_pos hk]
   by_cases h:g=k
   ·have hb:(g==k)=true:=beq_iff_eq.mpr h;simp only[List.lookup,hb,if_pos (h.trans hk)]
   ·have hb:(g==k)=false:=beq_eq_false_iff_ne.mpr h;simp only[List.lookup,hb,if_neg (λe:g=f=>h (e.trans hk.symm))]
  ·rw[if_neg hk]
   by_cases h:g=k
   ·have hb:(g==k)=true:=beq_iff_eq.mpr h;simp only[List.lookup,hb,if_neg (λe:g=f=>hk (h.symm.trans e))]
   ·have hb:(g==k)=false:=beq_eq_false_iff_ne.mpr h;simp only[List.lookup,hb];exact ih
theorem tO(f:Str)(v:V):∀fs:List (Str×V),f∈(e9 f v fs).map (·.1)∧∀g,g∈fs.map (·.1)→g∈(e9 f v fs).map (·.1)
 |[]=>⟨by simp[e9],λg h=>by simp at h⟩
 |(k,x)::r=>by
  obtain⟨i1,i2⟩:=tO f v r;rw[show e9 f v ((k,x)::r)=(if k=f then(k,v)::r else(k,x)::e9 f v r)from rfl]
  by_cases hk:k=f
  ·rw[if_pos hk];subst hk;exact⟨by simp,λg h=>by simpa using h⟩
  ·rw[if_neg hk];refine⟨?_,λg h=>?_⟩
   ·rw[List.map_cons];exact List.mem_cons_of_mem _ i1
   ·rw[List.map_cons]at h⊢;rcases List.mem_cons.mp h with e|e
    ·exact List.mem_cons.mpr (.inl e)
    ·exact List.mem_cons_of_mem _ (i2 g e)
theorem uw(f:Str)(v:V):∀fs:List (Str×V),(e9 f v fs).length≤fs.length+1
 |[]=>by simp[e9]
 |(k,x)::r=>by
  have ih:=uw f v r;rw[show e9 f v ((k,x)::r)=(if k=f then(k,v)::r else(k,x)::e9 f v r)from rfl]
  by_cases hk:k=f
  ·rw[if_pos hk,List.length_cons,List.length_cons];omega
  ·rw[if_neg hk,List.length_cons,List.length_cons];omega
theorem lJ.some_of{v:V}{o:Option Value}(r:lJ (some v) o):∃u,o=some u∧RelV v u:=by
 cases o with
 |none=>exact(show False from r).elim
 |some u=>exact⟨u,rfl,r⟩
theorem lJ.none_of{o:Option Value}(r:lJ none o):o=none:=by
 cases o with
 |none=>rfl
 |some u=>exact(show False from r).elim
theorem xI{v:V}{u:Value}(r:RelV v u):PySem.W.handedIn u=true:=by
 cases v with
 |non=>cases(show u=Value.none from r);rfl
 |bl b=>cases(show u=Value.bool b from r);rfl
 |int i=>obtain⟨t,e⟩:=(show∃t,u=Value.int i t from r);cases e;rfl
 |str x=>obtain⟨t,e⟩:=(show∃t,u=Value.str x t from r);cases e;rfl
 |byt b=>obtain⟨t,e⟩:=(show∃t,u=Value.bytes b t from r);cases e;rfl
 |flt b=>obtain⟨t,e⟩:=(show∃t,u=Value.float b t from r);cases e;rfl
 |ref a=>cases(show u=Value.ref a from r);rfl
 |ty n=>cases(show u=Value.type n from r);rfl
section
variable {P:Program}{w:World}{H H':Hp}{h h':Heap}{a C dx:Addr}{fs fs':List (Str×V)}
theorem yK(hok:HOk P w H h)(e:H a=some (.ins C dx fs)):∃mA,Bt h a dx C mA∧(∀f,lJ (fs.lookup f) (mA f))∧PySem.Within mA (fs.map (·.1))∧fs.length≤1000∧H dx=some (.own a):=by
 obtain⟨d,z,ne,ob,mA,n,r,q⟩:=(show bM P w H h a (.ins C dx fs)from hok a _ e);exact⟨mA,⟨ob,n,ne⟩,r,q,z,d⟩
end
structure Cls(K:PySem.W.Frag)(C:Addr):Prop where
 pg:PySem.W.plainGet K C Str.empty=true
 hd:PySem.W.hasDictIn K C=true
 po:PySem.W.plainOver K C=true
 sa:PySem.W.findIn K (.ref C) "__setattr__"=some (some (.builtin "object.__setattr__"))
theorem Cls.get{K:PySem.W.Frag}{C:Addr}(c:Cls K C)(f:Str):PySem.W.plainGet K C f=true:=c.pg
def au(K:PySem.W.Frag)(C:Addr)(f:Str):Prop:=PySem.W.findIn K (.ref C) f=some none
theorem au.Jp{K:PySem.W.Frag}{C:Addr}{f:Str}(n:au K C f):PySem.W.takerIn K C f=some none:=by
 unfold PySem.W.takerIn;rw[show PySem.W.findIn K (.ref C) f=some none from n];rfl
structure Meth(K:PySem.W.Frag)(C:Addr)(m:Str)(f:Addr):Prop where
 at_:PySem.W.findIn K (.ref C) m=some (some (.ref f))
 fn:PySem.W.isFn K (.ref f)=true
 kp:PySem.W.keepIn K (.ref f)=true
section
variable {X:Cx}{pins:List (Addr×Obj)}{σ:St}{H:Hp}{s:Shared}{a C dx:Addr}{fs:List (Str×V)}{f:Str}{v:V}{A:Around}{E:Value→Shared→Prop}
theorem wa{b:Bool}{Q:Value→Shared→Prop}(I:Inv X pins σ H s)(e:H a=some (.ins C dx fs))(c:Cls X.K C)(n:au X.K C f)(l:fs.lookup f=some v)
  (h:∀u s',Inv X pins σ H s'→RelV v u→Q u s'):wpAny (model X.prog X.w) A (getAttr (.ref a) f b) Q E s:=by
 obtain⟨mA,O,r,_,_,_⟩:=yK I.hok e;obtain⟨u,hu,ru⟩:=lJ.some_of (v:=v) (o:=mA f) (by rw[←l];exact r f)
 exact get_map I.kIn O (c.get f) c.hd n hu (xI ru) (h u _ (I.tok _) ru)
theorem v9{m:Str}{g:Addr}{pl:Sem Bool}{Q:Value×List Value→Shared→Prop}(I:Inv X pins σ H s)(e:H a=some (.ins C dx fs))(c:Cls X.K C)(k:Meth X.K C m g)(l:fs.lookup m=none)
  (h:Q (.ref g,[.ref a]) s):wpAny (model X.prog X.w) A (getMethod (.ref a) m pl) Q E s:=by
 obtain⟨mA,O,r,_,_,_⟩:=yK I.hok e;have hn:mA m=none:=lJ.none_of (by rw[←l];exact r m)
 exact EL I.kIn O (c.get m) k.at_ k.fn hn h
theorem vo{y:V}{u:Value}{Q:Unit→Shared→Prop}(I:Inv X pins σ H s)(e:H a=some (.ins C dx fs))(c:Cls X.K C)(n:au X.K C f)(hl:fs.length<1000)(ry:RelV y u)
  (h:∀s',Inv X pins σ (upd H a (.ins C dx (e9 f y fs))) s'→Q () s'):wpAny (model X.prog X.w) A (setAttr (.ref a) f u) Q E s:=by
 obtain⟨mA,O,r,wi,_,ho⟩:=yK I.hok e;have hz:(fs.map (·.1)).length≤sizeLine:=by rw[List.length_map,sizeLine_eq];omega
 refine Fw I.kIn O c.sa c.po n.Jp c.hd wi hz λh' O' sb=>h _ ?_;have hd:∃o,h'.get? dx=some o:=let⟨o,_,_,e',_⟩:=O'.ns;⟨o,e'⟩;refine I.write (x:=a) (e:=dx) (by rw[e];exact True.intro) (.inr ho) (λb q hb z=>(sb.2 b hb).trans z) hd ?_
 refine⟨by rw[ae O.ne];exact ho,?_,O.ne,O'.obj,_,O'.ns,λg=>?_,λg hg=>?_⟩
 ·have:=uw f y fs;omega
 ·show lJ ((e9 f y fs).lookup g) (if g=f then some u else mA g)
  rw[uv]
  by_cases q:g=f
  ·rw[if_pos q,if_pos q];exact ry
  ·rw[if_neg q,if_neg q];exact r g
 ·by_cases q:g=f
  ·rw[q];exact(tO f y fs).1
  ·refine(tO f y fs).2 g (wi g λz=>hg ?_);show(if g=f then some u else mA g)=none
   rw[if_neg q];exact z
theorem Inv.made(I:Inv X pins σ H s):Inv X pins σ (upd (upd H s.heap.objs.size (.own (s.heap.objs.size+1))) (s.heap.objs.size+1) (.ins C s.heap.objs.size []))
  {s with heap:=(s.heap.push PySem.W.emptyDict).push (PySem.W.instObj C s.heap.objs.size)}:=by
 have e1:(s.heap.push PySem.W.emptyDict).get? s.heap.objs.size=some PySem.W.emptyDict:=Heap.get?_push_size s.heap rfl;have e2:((s.heap.push PySem.W.emptyDict).push (PySem.W.instObj C s.heap.objs.size)).get? (s.heap.objs.size+1)=some (PySem.W.instObj C s.heap.objs.size):=by
  have:=Heap.get?_push_size (s.heap.push PySem.W.emptyDict) (o:=PySem.W.instObj C s.heap.objs.size) rfl
  rwa[Heap.size_push]at this
 have e3:(s.heap.push PySem.W.emptyDict).Ns s.heap.objs.size (λ_=>none):=⟨PySem.W.emptyDict,#[],_,e1,rfl,(λe he=>absurd he (by simp)),λ_=>rfl⟩
 have I1:=I.laid (a:=s.heap.objs.size) (o:=.own (s.heap.objs.size+1)) (h':=s.heap.push PySem.W.emptyDict) (t':=s.toks) (λb u q=>Heap.get?_push_of_some _ q) (Nat.le_refl _) ⟨_,e1⟩;refine I1.laid (a:=s.heap.objs.size+1) (o:=.ins C s.heap.objs.size []) (t':=s.toks) (λb u q=>Heap.get?_push_of_some _ q) (Nat.le_of_eq (Heap.size_push _ _)) ?_;have ne:s.heap.objs.size≠s.heap.objs.size+1:=Nat.ne_of_lt (Nat.lt_succ_self _);refine⟨by rw[ae ne,af],Nat.zero_le _,ne,e2,λ_=>none,(Heap.Ns1.of_empty e3).at λo q=>Heap.get?_push_of_some _ q,λ_=>True.intro,λy hy=>absurd rfl hy⟩
theorem Cp{prog:Program}{w:World}{env:Env}{e:Expr}{f:Str}{pos:Pos}{s:Shared}{Q:Value→Shared→Prop}(hb:attributeBase e f env (eval e env)=eval e env)
  (h:wpAny (model prog w) A (eval e env) (λo s₁=>wpAny (model prog w) A (getAttr o f true) Q E s₁) E s):wpAny (model prog w) A (eval (.Attribute e f pos) env) Q E s:=
 Attribute_any_ h (by rw[arm_eval_Attribute,hb])
end
def jk(K:PySem.W.Frag)(ta:TE)(f:Str):TE:=λσ H Q=>ta σ H λx H1=>∃a C dx fs v,x=.ref a∧H1 a=some (.ins C dx fs)∧Cls K C∧au K C f∧fs.lookup f=some v∧Q v H1
def HS(K:PySem.W.Frag)(ta tv:TE)(f:Str):TS:=λD σ H=>tv σ H λy H1=>ta σ H1 λx H2=>∃a C dx fs,x=.ref a∧H2 a=some (.ins C dx fs)∧Cls K C∧au K C f∧fs.length<1000∧
 D.nx σ (upd H2 a (.ins C dx (e9 f y fs)))
def Ku(X:Cx)(op:Operator)(rd:V→V→Hp→VK→Prop):Prop:=
 ∀(pins:List (Addr×Obj))(s:Shared)(σ:St)(H:Hp)(x y:V)(u v:Value)(Q:VK),Inv X pins σ H s→RelV x u→RelV y v→rd x y H Q→wpAny (model X.prog X.w) X.A (inplaceOp op u v) (EP X pins σ Q) X.xe s
def rG(K:PySem.W.Frag)(ta tv:TE)(rd:V→V→Hp→VK→Prop)(f:Str):TS:=λD σ H=>ta σ H λx H1=>∃a C dx fs v,x=.ref a∧H1 a=some (.ins C dx fs)∧Cls K C∧au K C f∧fs.lookup f=some v∧
 tv σ H1 λy H2=>rd v y H2 λz H3=>∃dx' fs',H3 a=some (.ins C dx' fs')∧fs'.length<1000∧D.nx σ (upd H3 a (.ins C dx' (e9 f z fs')))
section
variable {X:Cx}{o e value:Expr}{f:Str}{pos pos' tpos:Pos}{ta tv:TE}
theorem ak(he:PE X e ta)(hb:attributeBase e f X.env (eval e X.env)=eval e X.env):PE X (.Attribute e f pos) (jk X.K ta f):=by
 intro pins s σ H Q I h;refine Cp hb (thn (he pins s σ H _ I h) λu s1⟨x,H1,I1,rx,a,C,dx,fs,v,ex,ea,c,n,l,q⟩=>?_);subst ex;obtain rfl:u=Value.ref a:=rx;exact wa I1 ea c n l λu' s2 I2 ru=>⟨v,H1,I2,ru,q⟩
theorem aT(ha:PE X o ta)(hv:PE X value tv)(hs:swapsWith value (some (.Attribute o f pos')) pos.line X.env=pure false):PS X (.Assign [.Attribute o f pos'] value pos) (HS X.K ta tv f):=by
 intro pins s σ H D I h;refine plainObj_wpAny_Assign_Attribute (thn (hv pins s σ H _ I h) λu s1⟨y,H1,I1,ry,q⟩=>thn (ha pins s1 σ H1 _ I1 q) λov s2⟨x,H2,I2,rx,a,C,dx,fs,ex,ea,c,n,l,q2⟩=>?_) hs;subst ex;obtain rfl:ov=Value.ref a:=rx;exact vo I2 ea c n l ry λs3 I3=>⟨σ,_,I3,q2⟩
theorem bN{op:Operator}{rd:V→V→Hp→VK→Prop}(ha:PE X o ta)(hv:PE X value tv)(hop:Ku X op rd):PS X (.AugAssign (.Attribute o f tpos) op value pos) (rG X.K ta tv rd f):=by
 intro pins s σ H D I h;refine wpAny_AugAssign_AttributeAny (thn (ha pins s σ H _ I h) λov s1⟨x,H1,I1,rx,a,C,dx,fs,v,ex,ea,c,n,l,q⟩=>?_);subst ex;obtain rfl:ov=Value.ref a:=rx;refine wa I1 ea c n l λu s2 I2 ru=>thn (hv pins s2 σ H1 _ I2 q) λw3 s3⟨y,H2,I3,ry,q3⟩=>thn (hop pins s3 σ H2 v y u w3 _ I3 ru ry q3) λw4 s4⟨z,H3,I4,rz,dx',fs',ea',l',q4⟩=>?_;exact vo I4 ea' c n l' rz λs5 I5=>⟨σ,_,I5,q4⟩
def DY:V→V→Hp→VK→Prop:=λx y H Q=>∃i j,x=.int i∧y=.int j∧Q (.int (i+j)) H
theorem gk:Ku X .Add DY:=by
 rintro pins s σ H x y u v Q I rx ry ⟨i,j,rfl,rfl,q⟩;obtain⟨t,rfl⟩:=(show∃t,u=Value.int i t from rx);obtain⟨t',rfl⟩:=(show∃t',v=Value.int j t' from ry);exact PyProof.Rows.iadd_int ⟨.int (i+j),H,I.tok _,⟨_,rfl⟩,q⟩
end
structure cJ(k:Nat)(A:Around):Prop where
 hd:A.handled=none
 dp:A.depth+3*k+5<recursionLimit
 un:A.units+16*k+200<cLine
theorem cJ.mono{j k:Nat}{A:Around}(r:cJ k A)(h:j≤k):cJ j A:=⟨r.hd,by have:=r.dp;omega,by have:=r.un;omega⟩
theorem cJ.deeper{k:Nat}{A:Around}(r:cJ (k+1) A)(env:Env):cJ k (A.deeper env):=
 ⟨r.hd,by have:=r.dp;show A.depth+1+3*k+5<_;omega,by have:=r.un;show A.units+3+16*k+200<_;omega⟩
theorem AW{A:Around}{C:Addr}{us:List Value}{kw:List (Str×Value)}:(A.under (.builtin "type.__call__" ⟨.ref C::us,kw⟩)).depth=A.depth+1:=by
 first|rfl|simp[Around.under,Code.weight,Code.isCreation,Code.isGuard,Code.isCaller,Code.frames,Code.isFrame,guardIds]
theorem AV{A:Around}{C:Addr}{us:List Value}{kw:List (Str×Value)}:(A.under (.builtin "type.__call__" ⟨.ref C::us,kw⟩)).units=A.units+1:=by
 first|rfl|simp[Around.under,Code.cUnits,Code.frames,Code.isFrame]
theorem cJ.make{k:Nat}{A:Around}(r:cJ (k+1) A)(C:Addr)(us:List Value)(kw:List (Str×Value)):cJ k (A.under (.builtin "type.__call__" ⟨.ref C::us,kw⟩)):=
 ⟨r.hd,by have:=r.dp;rw[AW];omega,by have:=r.un;rw[AV];omega⟩
theorem cJ.depth{k:Nat}{A:Around}(r:cJ k A):A.depth<recursionLimit:=by have:=r.dp;omega
theorem cJ.units{k:Nat}{A:Around}(r:cJ k A):A.units+64<cLine:=by have:=r.un;omega
theorem cJ.x9{k:Nat}{A:Around}(r:cJ k A):A.units<cLine:=by have:=r.un;omega
def ij:TA:=λ_ H Q=>Q [] H
def dF(ta:TE)(tr:TA):TA:=λσ H Q=>ta σ H λx H1=>tr σ H1 λxs H2=>Q (x::xs) H2
section
variable {X:Cx}{e:Expr}{es:List Expr}{te:TE}{t:TA}{pos:Pos}
theorem ai:PA X [] ij:=λ_ _ _ _ H Q I h=>Calls.spliced_nil ⟨[],H,I,.nil,h⟩
theorem aa(ha:PE X e te)(hr:PA X es t)(hs:starEach (e::es) X.env=(false,eval e X.env)::starEach es X.env:=by rfl):PA X (e::es) (dF te t):=by
 intro pos pins s σ H Q I h;rw[hs];show wpAny _ _ (spliced ((false,eval e X.env)::backTo pos (starEach es X.env))) _ _ s;refine Calls.spliced_cons (thn (ha pins s σ H _ I h) λu s1⟨x,H1,I1,r1,q1⟩=>?_);exact thn (hr pos pins s1 σ H1 _ I1 q1) λus s2⟨xs,H2,I2,r2,q2⟩=>⟨x::xs,H2,I2,.cons r1 r2,q2⟩
def Jr(t:TA):TE:=λσ H Q=>t σ H λxs H1=>xs.length≤sizeLine∧∀p,H1 p=none→Q (.ref p) (upd H1 p (.tup xs))
def Fc(t:TA):TE:=λσ H Q=>t σ H λxs H1=>xs.length≤sizeLine∧∀p,H1 p=none→Q (.ref p) (upd H1 p (.lst xs))
theorem kL{x1}(h:PA X es t):PE X (.Tuple es x1 pos) (Jr t):=by
 intro pins s σ H Q I hq;refine wpAny_Tuple_spliced (thn (h pos pins s σ H _ I hq) λus s1⟨xs,H1,I1,r,z,q⟩=>⟨by rw[←r.length];exact z,?_⟩)
 have hf:H1 s1.heap.objs.size=none:=I1.hok.fresh (Nat.le_refl _);refine⟨.ref s1.heap.objs.size,upd H1 s1.heap.objs.size (.tup xs),I1.laid (t':=s1.toks) (λb u e=>Heap.get?_push_of_some _ e) (Nat.le_refl _) ?_,rfl,q _ hf⟩;exact⟨z,us,r,⟨_,Heap.get?_push_size _ rfl,rfl,_,rfl⟩⟩
theorem aU(h:PA X es t):PE X (.List es pos) (Fc t):=by
 intro pins s σ H Q I hq;refine wpAny_List_spliced (thn (h pos pins s σ H _ I hq) λus s1⟨xs,H1,I1,r,z,q⟩=>⟨by rw[←r.length];exact z,?_⟩)
 have hf:H1 s1.heap.objs.size=none:=I1.hok.fresh (Nat.le_refl _);refine⟨.ref s1.heap.objs.size,upd H1 s1.heap.objs.size (.lst xs),I1.laid (t':=s1.toks) (λb u e=>Heap.get?_push_of_some _ e) (Nat.le_refl _) ?_,rfl,q _ hf⟩;exact⟨z,us,0,r,Heap.get?_push_size _ rfl⟩
end
abbrev Sp:=List V→Hp→VK→XK→Prop
abbrev CXT:=List Env→Hp→Shared→XK→Value→Shared→Prop
structure Bv(P:Program)(w:World)(K:PySem.W.Frag)(mg:Str→Option Value)(base:Heap)(A:Around)(outer:List Env)(s:Shared)(H:Hp):Prop where
 frames:A.frames=some outer
 mod:Mod K mg base
 bs:∀b o,base.get? b=some o→s.heap.get? b=some o∧H b=none
 bsz:base.objs.size≤s.heap.objs.size
 sr:s.heap.FunFrames base outer
 frf:∀b∈frs outer,H b=none
 hok:HOk P w H s.heap
 bare:AllBare s.gens
def CE(outer:List Env)(P:Program)(w:World)(H:Hp)(s:Shared)(Q:VK)(u:Value)(s':Shared):Prop:=
 ∃v H',s'.os=s.os∧AllBare s'.gens∧Un (frs outer) [] H H' s.heap s'.heap∧HOk P w H' s'.heap∧RelV v u∧Q v H'
def CR(CX:CXT)(outer:List Env)(P:Program)(w:World)(H:Hp)(s:Shared)(Q:VK)(E:XK)(r:Result)(s':Shared):Prop:=
 match r with
 |.ok (.ret u)=>CE outer P w H s Q u s'
 |.ok _=>False
 |.error e=>CX outer H s E e s'
structure lM(P:Program)(w:World)(K:PySem.W.Frag)(mg:Str→Option Value)(base:Heap)(CX:CXT)(k:Nat)(f:Addr)(fd:FuncData)(ps:List Str)(sp:Sp):Prop where
 len:∀vs H Q E,sp vs H Q E→vs.length=ps.length
 run:∀(A:Around)(outer:List Env)(s:Shared)(H:Hp)(args:Args)(us:List Value)(vs:List V)(Q:VK)(E:XK),cJ k A→Bv P w K mg base A outer s H→BindsTo s fd args (ps.zip us)→Vals vs us→sp vs H Q E→
  codeAny (model P w) A (.call (.ref f) args) (CR CX outer P w H s Q E) s
theorem Bv.make{P:Program}{w:World}{K:PySem.W.Frag}{mg:Str→Option Value}{base:Heap}{A:Around}{outer:List Env}{s:Shared}{H:Hp}(e:Bv P w K mg base A outer s H)(C:Addr)(us:List Value)(kw:List (Str×Value)):
  Bv P w K mg base (A.under (.builtin "type.__call__" ⟨.ref C::us,kw⟩)) outer s H:=⟨by first|exact e.frames|(simpa[Around.under,Code.envs,Code.isFrame,pushEnvs]using e.frames),e.mod,e.bs,e.bsz,e.sr,e.frf,e.hok,e.bare⟩
section
variable {X:Cx}{pins:List (Addr×Obj)}{σ:St}{H:Hp}{s s':Shared}
theorem Inv.IX(I:Inv X pins σ H s):Bv X.prog X.w X.K X.mg X.base X.A X.stack s H:=
 ⟨I.ok.frames,I.ok.mod,I.bs,Nat.le_trans I.ok.bsz I.sz,I.stack,I.uS,I.hok,I.bare⟩
theorem Inv.after{Q:VK}{u:Value}(I:Inv X pins σ H s)(h:CE X.stack X.prog X.w H s Q u s'):EP X pins σ Q u s':=by
 obtain⟨v,H',os,bare,un,hok,r,q⟩:=h;obtain⟨hh,g,d,t,os'⟩:=s';obtain rfl:os'=s.os:=os;exact⟨v,H',I.call (h':=hh) (g':=g) (d':=d) (t':=t) (ch:=[]) un hok bare (λb z=>absurd z (by simp)),r,q⟩
end
def vk(sp:Sp)(dvs:List V)(E:XK)(t:TA):TE:=λσ H Q=>t σ H λvs H1=>sp (vs++dvs) H1 Q E
def rk(C:Addr)(m:Str)(sp:Sp)(dvs:List V)(E:XK)(ta:TE)(t:TA):TE:=λσ H Q=>ta σ H λx H1=>∃a dx fs,x=.ref a∧H1 a=some (.ins C dx fs)∧fs.lookup m=none∧
 t σ H1 λvs H2=>sp (x::(vs++dvs)) H2 Q E
def t6(C:Addr)(sp:Sp)(dvs:List V)(E:XK)(t:TA):TE:=λσ H Q=>t σ H λvs H1=>∀x dx,H1 x=none→H1 dx=none→dx≠x→
 sp (.ref x::(vs++dvs)) (upd (upd H1 dx (.own x)) x (.ins C dx [])) (λv H2=>v=.non∧Q (.ref x) H2) E
def Binds(K:PySem.W.Frag)(fd:FuncData)(ps:List Str)(ds:List Value):Prop:=
 ∀(s:Shared)(us:List Value),K.In s.heap→(us++ds).length=ps.length→BindsTo s fd ⟨us,[]⟩ (ps.zip (us++ds))
theorem Binds.all{K:PySem.W.Frag}{fd:FuncData}{ps:List Str}(h:∀us:List Value,us.length=ps.length→bindArgs fd ⟨us,[]⟩=pure (ps.zip us)):Binds K fd ps []:=λs us _ hl=>by
 rw[List.append_nil]at hl⊢;exact .of_eq (h us hl)
def Passes(CX:CXT)(X:Cx)(E:XK):Prop:=∀(pins:List (Addr×Obj))(σ:St)(H:Hp)(s:Shared)(e:Value)(s':Shared),Inv X pins σ H s→CX X.stack H s E e s'→X.xe e s'
section
variable {X:Cx}{CX:CXT}{k:Nat}{f C:Addr}{fd:FuncData}{ps:List Str}{sp:Sp}{dvs:List V}{ds:List Value}{E:XK}{x m:Str}{p pos apos:Pos}{e o:Expr}{es:List Expr}{ta:TE}{t:TA}
theorem yk{pins:List (Addr×Obj)}{σ:St}{H:Hp}{s:Shared}{Q:VK}{us:List Value}{vs:List V}(F:lM X.prog X.w X.K X.mg X.base CX k f fd ps sp)(hr:cJ k X.A)(hb:Binds X.K fd ps ds)(hd:Vals dvs ds)(hx:Passes CX X E)
  (I:Inv X pins σ H s)(r:Vals vs us)(h:sp (vs++dvs) H Q E):wpAny (model X.prog X.w) X.A (call (.ref f) us) (EP X pins σ Q) X.xe s:=by
 have r2:Vals (vs++dvs) (us++ds):=r.append hd;have hl:(us++ds).length=ps.length:=by rw[←r2.length];exact F.len _ _ _ _ h
 refine wpAny_call (codeAny_mono (F.run X.A X.stack s H ⟨us,[]⟩ (us++ds) (vs++dvs) Q E hr I.IX (hb s us I.kIn hl) r2 h) λr s' hq=>?_);cases r with
 |error e=>exact hx pins σ H s e s' I hq
 |ok fl=>
  cases fl with
  |ret u=>exact I.after hq
  |next=>exact False.elim hq
  |brk=>exact False.elim hq
  |cont=>exact False.elim hq
theorem FX(F:lM X.prog X.w X.K X.mg X.base CX k f fd ps sp)(hr:cJ k X.A)(hg:Gl X x)(hm:X.mg x=some (.ref f))(hk:PySem.W.keepIn X.K (.ref f)=true)(hb:Binds X.K fd ps ds)(hd:Vals dvs ds)(hx:Passes CX X E)
  (ha:PA X (e::es) t)(hdb:(x==("__debug__":Str))=false:=by decide)(he:starEach (e::es) X.env=(false,eval e X.env)::starEach es X.env:=by rfl)(hpl:(backTo pos (starEach es X.env)).any (·.1)=false:=by rfl):
  PE X (.Call (.Name x p) (e::es) [] pos) (vk sp dvs E t):=by
 intro pins s σ H Q I h;refine wpAny_Call_Name_kw (km I hg hm ?_ hdb);refine PySem.W.callWith_K (h₀:=X.base) I.ok.mod.kin hk (thn (ha pos pins s σ H _ I h) λus s1⟨vs,H1,I1,r,q⟩=>⟨I1.kIn,?_⟩) he hpl;exact yk F hr hb hd hx I1 r q
theorem Ee(F:lM X.prog X.w X.K X.mg X.base CX k f fd ps sp)(hr:cJ k X.A)(hg:Gl X x)(hm:X.mg x=some (.ref f))(hk:PySem.W.keepIn X.K (.ref f)=true)(hb:Binds X.K fd ps ds)(hd:Vals dvs ds)(hx:Passes CX X E)
  (hdb:(x==("__debug__":Str))=false:=by decide):PE X (.Call (.Name x p) [] [] pos) (vk sp dvs E ij):=by
 intro pins s σ H Q I h;refine wpAny_Call_Name_kw (km I hg hm ?_ hdb);exact PySem.W.callWith_K0 I.kIn hk (yk (us:=[]) F hr hb hd hx I .nil h)
theorem FR{pl:Sem Bool}(he:PE X o ta)(c:Cls X.K C)(hm:Meth X.K C m f)(F:lM X.prog X.w X.K X.mg X.base CX k f fd ps sp)(hr:cJ k X.A)(hb:Binds X.K fd ps ds)(hd:Vals dvs ds)(hx:Passes CX X E)(ha:PA X (e::es) t)
  (hst:starEach (e::es) X.env=(false,eval e X.env)::starEach es X.env:=by rfl)(hpl:(backTo pos (starEach es X.env)).any (·.1)=false:=by rfl)
  (ht:eval (.Call (.Attribute o m apos) (e::es) [] pos) X.env=(do
   let ov←eval o X.env
   standAt apos.atName
   let(f,first)←holding [ov] (getMethod ov m pl)
   callWith pos f first (backTo pos (starEach (e::es) X.env)) (backToKw pos (keywordEach [] X.env))):=by rfl):
  PE X (.Call (.Attribute o m apos) (e::es) [] pos) (rk C m sp dvs E ta t):=by
 intro pins s σ H Q I h;refine PySem.W.methodCall_KW (pl:=pl) (thn (he pins s σ H _ I h) λu s1⟨x,H1,I1,rx,a,dx,fs,ex,ea,l,q⟩=>?_) ht;subst ex;obtain rfl:u=Value.ref a:=rx;refine v9 I1 ea c hm l ?_;refine PySem.W.callWith_K (first:=[.ref a]) (h₀:=X.base) I.ok.mod.kin hm.kp (thn (ha pos pins s1 σ H1 _ I1 q) λus s2⟨vs,H2,I2,r,q2⟩=>⟨I2.kIn,?_⟩) hst hpl
 exact yk (us:=.ref a::us) (vs:=.ref a::vs) F hr hb hd hx I2 (.cons rfl r) q2
theorem Ea{pl:Sem Bool}(he:PE X o ta)(c:Cls X.K C)(hm:Meth X.K C m f)(F:lM X.prog X.w X.K X.mg X.base CX k f fd ps sp)(hr:cJ k X.A)(hb:Binds X.K fd ps ds)(hd:Vals dvs ds)(hx:Passes CX X E)
  (ht:eval (.Call (.Attribute o m apos) [] [] pos) X.env=(do
   let ov←eval o X.env
   standAt apos.atName
   let(f,first)←holding [ov] (getMethod ov m pl)
   callWith pos f first (backTo pos (starEach [] X.env)) (backToKw pos (keywordEach [] X.env))):=by rfl):
  PE X (.Call (.Attribute o m apos) [] [] pos) (rk C m sp dvs E ta ij):=by
 intro pins s σ H Q I h;refine PySem.W.methodCall_KW (pl:=pl) (thn (he pins s σ H _ I h) λu s1⟨x,H1,I1,rx,a,dx,fs,ex,ea,l,q⟩=>?_) ht;subst ex;obtain rfl:u=Value.ref a:=rx;refine v9 I1 ea c hm l ?_;exact PySem.W.callWith_K0 (first:=[.ref a]) I1.kIn hm.kp (yk (us:=[.ref a]) (vs:=[.ref a]) F hr hb hd hx I1 (.cons rfl .nil) q)
structure Mk(K:PySem.W.Frag)(C f:Addr):Prop where
 makes:PySem.W.makesIn K C=true
 init:PySem.W.findIn K (.ref C) "__init__"=some (some (.ref f))
 fn:PySem.W.isFn K (.ref f)=true
 kp:PySem.W.keepIn K (.ref C)=true
theorem zq{pins:List (Addr×Obj)}{σ:St}{H:Hp}{s:Shared}{Q:VK}{us:List Value}{vs:List V}(M:Mk X.K C f)(F:lM X.prog X.w X.K X.mg X.base CX k f fd ps sp)(hr:cJ (k+1) X.A)(hb:Binds X.K fd ps ds)(hd:Vals dvs ds)
  (hx:Passes CX X E)(I:Inv X pins σ H s)(r:Vals vs us)
  (h:∀x dx,H x=none→H dx=none→dx≠x→sp (.ref x::(vs++dvs)) (upd (upd H dx (.own x)) x (.ins C dx [])) (λv H2=>v=.non∧Q (.ref x) H2) E):
  wpAny (model X.prog X.w) X.A (call (.ref C) us) (EP X pins σ Q) X.xe s:=by
 have hq:=h (s.heap.objs.size+1) s.heap.objs.size (I.hok.fresh (Nat.le_succ _)) (I.hok.fresh (Nat.le_refl _)) (Nat.ne_of_lt (Nat.lt_succ_self _));have I2:=Inv.made (C:=C) I;have r2:Vals (V.ref (s.heap.objs.size+1)::(vs++dvs)) (Value.ref (s.heap.objs.size+1)::(us++ds)):=.cons rfl (r.append hd);have hl:(Value.ref (s.heap.objs.size+1)::us++ds).length=ps.length:=by
  have e:=r2.length;rw[F.len _ _ _ _ hq]at e;exact e.symm
 refine wpAny_call (Eo (f:=f) I.kIn M.makes M.init (beq_iff_eq.mp M.fn) (codeAny_mono (F.run _ X.stack _ _ ⟨Value.ref (s.heap.objs.size+1)::us,[]⟩ (Value.ref (s.heap.objs.size+1)::(us++ds)) _ _ E (hr.make C us [])
  (I2.IX.make C us []) (hb _ (Value.ref (s.heap.objs.size+1)::us) I2.kIn hl) r2 hq) λr s' hq'=>?_))
 cases r with
 |error e=>exact hx pins σ _ _ e s' I2 hq'
 |ok fl=>
  cases fl with
  |ret u=>
   obtain⟨v,H',I3,rv,ev,q3⟩:=I2.after hq';subst ev;exact⟨rv,⟨V.ref (s.heap.objs.size+1),H',I3,rfl,q3⟩⟩
  |next=>exact False.elim hq'
  |brk=>exact False.elim hq'
  |cont=>exact False.elim hq'
theorem FT(M:Mk X.K C f)(F:lM X.prog X.w X.K X.mg X.base CX k f fd ps sp)(hr:cJ (k+1) X.A)(hg:Gl X x)(hm:X.mg x=some (.ref C))(hb:Binds X.K fd ps ds)(hd:Vals dvs ds)(hx:Passes CX X E)
  (ha:PA X (e::es) t)(hdb:(x==("__debug__":Str))=false:=by decide)(he:starEach (e::es) X.env=(false,eval e X.env)::starEach es X.env:=by rfl)(hpl:(backTo pos (starEach es X.env)).any (·.1)=false:=by rfl):
  PE X (.Call (.Name x p) (e::es) [] pos) (t6 C sp dvs E t):=by
 intro pins s σ H Q I h;refine wpAny_Call_Name_kw (km I hg hm ?_ hdb);refine PySem.W.callWith_K (h₀:=X.base) I.ok.mod.kin M.kp (thn (ha pos pins s σ H _ I h) λus s1⟨vs,H1,I1,r,q⟩=>⟨I1.kIn,?_⟩) he hpl;exact zq M F hr hb hd hx I1 r q
theorem Eb(M:Mk X.K C f)(F:lM X.prog X.w X.K X.mg X.base CX k f fd ps sp)(hr:cJ (k+1) X.A)(hg:Gl X x)(hm:X.mg x=some (.ref C))(hb:Binds X.K fd ps ds)(hd:Vals dvs ds)(hx:Passes CX X E)
  (hdb:(x==("__debug__":Str))=false:=by decide):PE X (.Call (.Name x p) [] [] pos) (t6 C sp dvs E ij):=by
 intro pins s σ H Q I h;refine wpAny_Call_Name_kw (km I hg hm ?_ hdb);exact PySem.W.callWith_K0 I.kIn M.kp (zq (us:=[]) M F hr hb hd hx I .nil h)
end
section
variable {X:Cx}{CX:CXT}{k:Nat}{f C:Addr}{fd:FuncData}{ps ks:List Str}{sp:Sp}{E:XK}{x m:Str}{p pos apos kpos:Pos}{e o:Expr}{es:List Expr}{kws:List Keyword}{te ta:TE}{t tk:TA}{nm:Option Str}
variable {g:List Value→List Value→List Value}{gV:List V→List V→List V}
end
structure aq(N P:List Str)(sc:Scope):Prop where
 kind:sc.kind=.function
 co:sc.isCoroutine=false
 gen:sc.isGenerator=false
 nd:N.Nodup
 pre:N.take P.length=P
 par:∀x∈P,sc.names.lookup x=some .local∨sc.names.lookup x=some .cell
 IB:∀y∈sc.names,y.2≠.free
theorem xV{kindOf:Str→Option NameKind}{x:Str}:∀{binds:List (Str×Value)}{m:Str→Option Value},(∀v,(x,v)∉binds)→bindL kindOf binds m x=m x
 |[],_,_=>rfl
 |(n,v)::r,m,h=>by
  unfold bindL;rw[xV λw hw=>h w (List.mem_cons_of_mem _ hw)]
  split
  ·have:x≠n:=by rintro rfl;exact h v List.mem_cons_self
   simp[this]
  ·rfl
theorem xX{kindOf:Str→Option NameKind}{x:Str}:∀{binds:List (Str×Value)}{m:Str→Option Value},(∀v,(x,v)∉binds)→bindC kindOf binds m x=m x
 |[],_,_=>rfl
 |(n,v)::r,m,h=>by
  unfold bindC;rw[xX λw hw=>h w (List.mem_cons_of_mem _ hw)]
  split
  ·rfl
  ·have:x≠n:=by rintro rfl;exact h v List.mem_cons_self
   simp[this]
theorem xW{kindOf:Str→Option NameKind}{x:Str}{v:Value}:∀{P:List Str}{vs:List Value}{i:Nat}{m:Str→Option Value},P.Nodup→P[i]?=some x→vs[i]?=some v→kindOf x=some .local→
  bindL kindOf (P.zip vs) m x=some v
 |[],_,_,_,_,h,_,_=>by simp at h
 |_::_,[],_,_,_,_,h,_=>by simp at h
 |p::P,w::vs,0,m,nd,h1,h2,hk=>by
  simp at h1 h2;subst h1;subst h2;show bindL kindOf ((p,w)::P.zip vs) m p=_;unfold bindL;rw[xV λv hv=>(List.nodup_cons.mp nd).1 (List.of_mem_zip hv).1,if_pos hk];simp
 |p::P,w::vs,i+1,m,nd,h1,h2,hk=>by
  show bindL kindOf ((p,w)::P.zip vs) m x=_;unfold bindL;exact xW (i:=i) (List.nodup_cons.mp nd).2 (by simpa using h1) (by simpa using h2) hk
theorem xY{kindOf:Str→Option NameKind}{x:Str}{v:Value}:∀{P:List Str}{vs:List Value}{i:Nat}{m:Str→Option Value},P.Nodup→P[i]?=some x→vs[i]?=some v→kindOf x≠some .local→
  bindC kindOf (P.zip vs) m x=some v
 |[],_,_,_,_,h,_,_=>by simp at h
 |_::_,[],_,_,_,_,h,_=>by simp at h
 |p::P,w::vs,0,m,nd,h1,h2,hk=>by
  simp at h1 h2;subst h1;subst h2;show bindC kindOf ((p,w)::P.zip vs) m p=_;unfold bindC;rw[xX λv hv=>(List.nodup_cons.mp nd).1 (List.of_mem_zip hv).1,if_neg hk];simp
 |p::P,w::vs,i+1,m,nd,h1,h2,hk=>by
  show bindC kindOf ((p,w)::P.zip vs) m x=_;unfold bindC;exact xY (i:=i) (List.nodup_cons.mp nd).2 (by simpa using h1) (by simpa using h2) hk
def start(N:List Str)(vs:List V):St:=vs.map some++List.replicate (N.length-vs.length) none
def aM(CX:CXT)(P:Program)(w:World)(K:PySem.W.Frag)(mg:Str→Option Value)(base:Heap)(N:List Str)(qual:Str)(scope:Scope)(f:Addr)(cd:Value)(A:Around)(outer:List Env)(s:Shared)(H:Hp)(E:XK):Cx where
 prog:=P
 w:=w
 K:=K
 mg:=mg
 base:=base
 A:=A.deeper (envOfC qual scope s.heap.objs.size f cd)
 N:=N
 s_0:=s
 H_0:=H
 env:=envOfC qual scope s.heap.objs.size f cd
 outer:=outer
 stack:=envOfC qual scope s.heap.objs.size f cd::outer
 ex:=[]
 calm:=true
 fn:=λ_=>true
 pn:=[]
 xe:=λe s'=>wpAny (model P w) (A.deeper (envOfC qual scope s.heap.objs.size f cd)) (leaving (envOfC qual scope s.heap.objs.size f cd) e) (λ_ s''=>CX outer H s E e s'') (λe' s''=>CX outer H s E e' s'') s'
theorem Al{sc:Scope}{n:Nat}{x:Str}(h:sc.names.lookup x=some .cell):∃c,(cellsFrom n sc.names []).lookup x=some c:=by
 have q:=PySem.W.cellsFrom_some sc.names n [] (.inl h);exact Option.isSome_iff_exists.mp q
theorem C5{CX:CXT}{P:Program}{w:World}{K:PySem.W.Frag}{mg:Str→Option Value}{base:Heap}{N ps:List Str}{qual:Str}{scope:Scope}{f:Addr}{cd:Value}{A:Around}{outer:List Env}{s s1:Shared}{H:Hp}{E:XK}{us:List Value}{vs:List V}
  (S:aq N ps scope)(hd:A.handled=none)(e0:Bv P w K mg base A outer s H)(hl:vs.length=ps.length)(r:Vals vs us)
  (x:InCallC s s.heap.objs.size (bindL (envOfC qual scope s.heap.objs.size f cd).kindOf (ps.zip us) λ_=>none) (cellsFrom (s.heap.objs.size+1) scope.names []) (bindC (envOfC qual scope s.heap.objs.size f cd).kindOf (ps.zip us) λ_=>none) s1):
  Inv (aM CX P w K mg base N qual scope f cd A outer s H E) [] (start N vs) H s1:=by
 have hpl:ps.length≤N.length:=by have:=congrArg List.length S.pre;rw[List.length_take]at this;omega
 obtain⟨h1,tk,rfl,hk⟩:=x.done;have noA:∀b:Addr,b∉(aM CX P w K mg base N qual scope f cd A outer s H E).ex:=λb z=>absurd (show b∈([]:List Addr)from z) (by simp)
 refine⟨⟨e0.mod,S.kind,rfl,rfl,Nat.le_refl _,λy z c h1 h2=>?_,λy hy=>?_,λy c _ h=>?_,λ_=>hd,Around.frames_deeper e0.frames,.inr ⟨rfl,rfl⟩,λb z=>absurd z (noA b),e0.bs,e0.bsz,λb _ _=>noA b,λb z=>absurd z (noA b),e0.sr,e0.frf⟩,
  rfl,e0.bare,Un.kept hk,⟨_,x.toInCall.ns,λi y v h1 h2 h3=>?_⟩,λy c h=>⟨_,x.cell y c h⟩,e0.hok.fresh (Nat.le_refl _),λy c h=>?_,λp hp=>absurd (show p∈([]:List (Addr×Obj))from hp) (by simp),e0.hok.kept hk,?_⟩
 ·exact name_of_addr x.apart (PySem.mem_of_lookup h1) (PySem.mem_of_lookup h2)
 ·have hy:scope.names.lookup y=some .cell∨scope.names.lookup y=some .free:=hy;rcases hy with hy|hy
  ·exact Al hy
  ·exact absurd rfl (S.IB _ (PySem.mem_of_lookup hy))
 ·exact Nat.le_of_lt (x.above y c (PySem.mem_of_lookup h))
 ·have hi:i<vs.length:=by
   unfold start at h2
   by_cases hi:i<vs.length
   ·exact hi
   ·rw[List.getElem?_append_right (by simpa using hi)]at h2
    rw[List.getElem?_replicate]at h2
    split at h2<;>cases h2
  have ha:vs[i]?=some v:=by
   unfold start at h2;rw[List.getElem?_append_left (by simpa using hi),List.getElem?_map]at h2
   cases e:vs[i]? with
   |none=>rw[e]at h2;cases h2
   |some a=>rw[e]at h2;cases h2;rfl
  obtain⟨u,hu,rv⟩:=r.get ha;have hp:ps[i]?=some y:=by
   rw[←S.pre,List.getElem?_take_of_lt (by omega)];exact h1
  have ndP:ps.Nodup:=by rw[←S.pre];exact S.nd.sublist (List.take_sublist _ _)
  refine⟨u,rv,?_⟩;rcases S.par y (List.mem_of_getElem? hp)with k|k
  ·exact .inl ⟨k,xW ndP hp hu k⟩
  ·obtain⟨c,e⟩:=Al (n:=s.heap.objs.size+1) k;refine .inr ⟨.inl k,c,e,?_⟩;have q:=x.cell y c e;rw[xY ndP hp hu (by show scope.names.lookup y≠_;rw[k];decide)]at q
   exact q
 ·exact e0.hok.fresh (Nat.le_of_lt (x.above y c (PySem.mem_of_lookup h)))
 ·unfold start;show _=N.length;rw[List.length_append,List.length_map,List.length_replicate];omega
theorem Kk{CX:CXT}{P:Program}{w:World}{K:PySem.W.Frag}{mg:Str→Option Value}{base:Heap}{k:Nat}{f:Addr}{name qual:Str}{params:Arguments}{body:List Stmt}{scope:Scope}{dV kV doc pm cdv ct oc:Value}{an od:Option Addr}
  {osl:Array (Option Value)}{N ps:List Str}{sp:Sp}(lk:K.lookup f=some ⟨oc,od,.func (PySem.W.fnOf name qual params body scope dV kV doc pm an cdv ct),osl⟩)(hcd:PySem.W.codeIn K cdv qual=true)(S:aq N ps scope)
  (len:∀vs H Q E,sp vs H Q E→vs.length=ps.length)
  (jJ:∀(A:Around)(outer:List Env)(s:Shared)(H:Hp)(vs:List V)(Q:VK)(E:XK),cJ k (A.deeper (envOfC qual scope s.heap.objs.size f cdv))→sp vs H Q E→
   ∃t,PSs (aM CX P w K mg base N qual scope f cdv A outer s H E) body t∧t {nx:=λ_ H'=>Q .non H',rt:=Q} (start N vs) H):
  lM P w K mg base CX (k+1) f (PySem.W.fnOf name qual params body scope dV kV doc pm an cdv ct) ps sp:=by
 refine⟨len,λA outer s H args us vs Q E hr e0 hb r hsp=>?_⟩;have hl:=len _ _ _ _ hsp;have KX:K.In s.heap:=e0.mod.kin.keeps λb o e=>(e0.bs b o e).1;have lim:s.heap.NoLimit:=e0.mod.nolimit.keeps λb o e=>(e0.bs b o e).1;have hkind:∀y∈ps.zip us,scope.names.lookup y.1=some .local∨(scope.names.lookup y.1=some .cell∧((cellsFrom (s.heap.objs.size+1) scope.names []).lookup y.1).isSome=true):=λ⟨n,v⟩hy=>by
  rcases S.par n (List.of_mem_zip hy).1 with q|q
  ·exact .inl q
  ·exact .inr ⟨q,PySem.W.cellsFrom_some _ _ _ (.inl q)⟩
 refine codeAny_call_function hr.depth (KX _ _ lk) rfl S.co S.gen rfl (PySem.W.codeRec_of KX hcd) (hb _ _ _ _ ?_);refine wpAny_newFunctionEnv_cells S.kind hkind λenv he s1 x=>?_;subst he;refine⟨lim.keeps x.toInCall.keep,codeAny_func ?_⟩;obtain⟨t,ht,hq⟩:=jJ A outer s H vs Q E (hr.deeper _) hsp;have I:Inv (aM CX P w K mg base N qual scope f cdv A outer s H E) [] (start N vs) H s1:=C5 S hr.hd e0 hl r x;refine wpAny_mono (ht [] s1 (start N vs) H _ I hq) (λfl s' hs=>?_) λe s' hs=>hs;have fin:∀{σ':St}{H':Hp}{v:V}{u:Value},Inv (aM CX P w K mg base N qual scope f cdv A outer s H E) [] σ' H' s'→RelV v u→Q v H'→CE outer P w H s Q u s':=
  λ{σ' H' v u}J rv q=>⟨v,H',J.os,J.bare,J.base,J.hok,rv,q⟩
 cases fl with
 |ret u=>
  obtain⟨v,σ',H',J,rv,q⟩:=hs;exact fin J rv q
 |next=>
  obtain⟨σ',H',J,q⟩:=hs;exact fin (v:=V.non) (u:=Value.none) J rfl q
 |brk=>
  obtain⟨_,_,_,q⟩:=hs;exact False.elim q
 |cont=>
  obtain⟨_,_,_,q⟩:=hs;exact False.elim q
section
variable {X:Cx}{x:Str}{p pos:Pos}{e:Expr}{es:List Expr}{t:TA}{id T:String}{r:List V→Hp→VK→Prop}
def tCB(r:List V→Hp→VK→Prop)(t:TA):TE:=λσ H Q=>t σ H λvs H1=>r vs H1 Q
theorem aK(hc:sN X (.builtin id) r)(hg:Gl X x)(hm:X.mg x=none)(hv:bootBuiltins x=some (.builtin id))(ha:PA X (e::es) t)(hn:x≠"__name__":=by decide)(hdb:(x==("__debug__":Str))=false:=by decide)
  (he:starEach (e::es) X.env=(false,eval e X.env)::starEach es X.env:=by rfl)(hpl:(backTo pos (starEach es X.env)).any (·.1)=false:=by rfl):PE X (.Call (.Name x p) (e::es) [] pos) (tCB r t):=by
 intro pins s σ H Q I h;refine wpAny_Call_Name_kw (A4 I hg hm hv ?_ hn hdb);exact PyProof.Rows.callWith_builtin1 (thn (ha pos pins s σ H _ I h) λus s1⟨vs,H1,I1,r1,q1⟩=>hc pins s1 σ H1 vs us Q I1 r1 q1) he hpl
theorem tE(hc:sN X (.type T) r)(hg:Gl X x)(hm:X.mg x=none)(hv:bootBuiltins x=some (.type T))(ha:PA X (e::es) t)(hn:x≠"__name__":=by decide)(hdb:(x==("__debug__":Str))=false:=by decide)
  (he:starEach (e::es) X.env=(false,eval e X.env)::starEach es X.env:=by rfl)(hpl:(backTo pos (starEach es X.env)).any (·.1)=false:=by rfl):PE X (.Call (.Name x p) (e::es) [] pos) (tCB r t):=by
 intro pins s σ H Q I h;refine wpAny_Call_Name_kw (A4 I hg hm hv ?_ hn hdb);exact PyProof.Rows.callWith_type1 (thn (ha pos pins s σ H _ I h) λus s1⟨vs,H1,I1,r1,q1⟩=>hc pins s1 σ H1 vs us Q I1 r1 q1) he hpl
end
end L2
namespace HT
open PySem PyProof.Rows
section
open PySem.SeqAt
open PySem.AutoSeq1 (wpAny_loadPart')
open PySem.MeetsSeq PySem.MeetsSeq2 PySem.MeetsSeq3
end
section
variable {prog:Program}{w:World}{A:Around}{E:Value→Shared→Prop}{s:Shared}
def sIx(n d:Nat):Option Int→Nat
 |none=>d
 |some v=>if v<0 then(v+(n:Int)).toNat else min v.toNat n
theorem DM(n d:Nat):sIx n d none=d:=rfl
theorem yj(n d k:Nat):sIx n d (some (k:Int))=min k n:=by
 show(if(k:Int)<0 then((k:Int)+(n:Int)).toNat else min (k:Int).toNat n)=min k n
 rw[if_neg (by omega),Int.toNat_natCast]
theorem DN(n d:Nat)(hd:d≤n)(o:Option Int):sIx n d o≤n:=by
 cases o with
 |none=>exact hd
 |some v=>
  show(if v<0 then(v+(n:Int)).toNat else min v.toNat n)≤n
  by_cases hv:v<0
  ·rw[if_pos hv];omega
  ·rw[if_neg hv];exact Nat.min_le_right _ _
end
end HT
namespace L2
open PySem PySem.Spec PyProof.Rows
abbrev TO:=St→Hp→(Option Int→Hp→Prop)→Prop
def PO(X:Cx)(e:Option Expr)(t:TO):Prop:=
 ∀(pins:List (Addr×Obj))(s:Shared)(σ:St)(H:Hp)(Q:Option Int→Hp→Prop),Inv X pins σ H s→t σ H Q→
  wpAny (model X.prog X.w) X.A (evalPart e X.env) (λu s'=>∃o H',Inv X pins σ H' s'∧IsPart u o∧Q o H') X.xe s
def Bz:TO:=λ_ H Q=>Q none H
def By(t:TE):TO:=λσ H Q=>t σ H λx H1=>∃i,x=.int i∧Q (some i) H1
section
variable {X:Cx}{e:Expr}{te:TE}{lo hi:Option Expr}{tl th:TO}{pos p2:Pos}
theorem BR:PO X none Bz:=by
 intro pins s σ H Q I h;rw[evalPart_none];exact wpAny_pure ⟨none,H,I,.none,h⟩
theorem dy(h:PE X e te):PO X (some e) (By te):=by
 intro pins s σ H Q I hw;rw[evalPart_some];refine thn (h pins s σ H _ I hw) λu s1⟨x,H1,I1,r1,q1⟩=>?_;obtain⟨i,rfl,q⟩:=q1;obtain⟨t,rfl⟩:=r1;exact⟨some i,H1,I1,.int i t,q⟩
def SlR(X:Cx)(r:V→Option Int→Option Int→Hp→VK→Prop):Prop:=
 ∀(pins:List (Addr×Obj))(s:Shared)(σ:St)(H:Hp)(x:V)(v vl vu:Value)(lo hi:Option Int)(sl:Addr)(Q:VK),Inv X pins σ H s→RelV x v→s.heap.IsSliceOf sl vl vu .none→IsPart vl lo→IsPart vu hi→r x lo hi H Q→
  ∃T id,typeLookup (.type T) "__getitem__"=pure (some (.builtin id))∧s.TypeIs v T∧wpAny (model X.prog X.w) X.A (getItem v (.ref sl)) (EP X pins σ Q) X.xe s
def tSl(r:V→Option Int→Option Int→Hp→VK→Prop)(te:TE)(tl th:TO):TE:=λσ H Q=>te σ H λx H1=>tl σ H1 λl H2=>th σ H2 λu H3=>r x l u H3 Q
theorem iA{r:V→Option Int→Option Int→Hp→VK→Prop}(hr:SlR X r)(he:PE X e te)(hl:PO X lo tl)(hu:PO X hi th):PE X (.Subscript e (.Slice lo hi none p2) pos) (tSl r te tl th):=by
 intro pins s σ H Q I h;refine Subscript_ (thn (he pins s σ H _ I h) λv s1⟨x,H1,I1,r1,q1⟩=>?_);refine wpAny_Slice (thn (hl pins s1 σ H1 _ I1 q1) λvl s2⟨l,H2,I2,pl,q2⟩=>thn (hu pins s2 σ H2 _ I2 q2) λvu s3⟨u,H3,I3,pu,q3⟩=>?_);rw[evalPart_none];refine wpAny_pure ?_;have I4:Inv X pins σ H3 {s3 with heap:=s3.heap.push {cls:=.type "slice",data:=.fields #[vl,vu,.none]}}:=I3.kept (t':=s3.toks) λb ob q=>Heap.get?_push_of_some _ q
 obtain⟨T,id,hT,ht,hg⟩:=hr pins {s3 with heap:=s3.heap.push {cls:=.type "slice",data:=.fields #[vl,vu,.none]}} σ H3 x v vl vu l u s3.heap.objs.size Q I4 r1 (Heap.IsSliceOf.new ..) pl pu q3
 show wpAny (model X.prog X.w) X.A (subscriptTail e (.Slice lo hi none p2) v (.ref s3.heap.objs.size)) (EP X pins σ Q) X.xe {s3 with heap:=s3.heap.push {cls:=.type "slice",data:=.fields #[vl,vu,.none]}}
 exact tail_any (ops:=[.ref s3.heap.objs.size,v]) ht hT hg (by with_unfolding_all rfl)
def wx(xs:List V)(lo hi:Option Int):List V:=(xs.drop (HT.sIx xs.length 0 lo)).take (HT.sIx xs.length xs.length hi-HT.sIx xs.length 0 lo)
theorem Af(xs:List V)(lo hi:Option Int):(wx xs lo hi).length≤xs.length:=by
 unfold wx;rw[List.length_take,List.length_drop];omega
end
def ixN(n:Nat)(i:Int):Option Nat:=if 0≤i then(if i<n then some i.toNat else none)else if-(n:Int)≤i then some (i+n).toNat else none
def atI{α:Type}(xs:List α)(i:Int):Option α:=(ixN xs.length i).bind λj=>xs[j]?
theorem Gj{n:Nat}{i:Int}{j:Nat}(h:ixN n i=some j):seqIndex? i n=some j∧j<n∧-(n:Int)≤i∧i<n:=by
 unfold ixN at h
 by_cases h0:0≤i
 ·rw[if_pos h0]at h
  by_cases h1:i<n
  ·rw[if_pos h1]at h;have e:i.toNat=j:=Option.some.inj h;exact⟨by rw[seqIndex_of h0 h1,e],by omega,by omega,h1⟩
  ·rw[if_neg h1]at h;cases h
 ·rw[if_neg h0]at h
  by_cases h1:-(n:Int)≤i
  ·rw[if_pos h1]at h;have e:(i+n).toNat=j:=Option.some.inj h;exact⟨by rw[seqIndex_neg (by omega) h1,e],by omega,h1,by omega⟩
  ·rw[if_neg h1]at h;cases h
theorem Cr{α:Type}{xs:List α}{i:Int}{v:α}(h:atI xs i=some v):∃j,seqIndex? i xs.length=some j∧xs[j]?=some v∧j<xs.length∧-(xs.length:Int)≤i∧i<xs.length:=by
 unfold atI at h;cases e:ixN xs.length i with
 |none=>rw[e]at h;cases h
 |some j=>
  rw[e]at h;obtain⟨h1,h2,h3,h4⟩:=Gj e;exact⟨j,h1,h,h2,h3,h4⟩
theorem c6{α:Type}{xs:List α}{j:Nat}{v:α}(h:xs[j]?=some v):atI xs (j:Int)=some v:=by
 have hj:j<xs.length:=(List.getElem?_eq_some_iff.mp h).1;have e:ixN xs.length (j:Int)=some j:=by
  unfold ixN;rw[if_pos (by omega),if_pos (by omega)];simp
 unfold atI;rw[e];exact h
def GC(b:Expr):Prop:=∀o i,subscripted b false o i=operate [o,i] (getItem o i)
def IxR(X:Cx)(r:R2):Prop:=
 ∀(value slice:Expr)(pins:List (Addr×Obj))(s:Shared)(σ:St)(H:Hp)(x y:V)(v u:Value)(Q:VK),Inv X pins σ H s→RelV x v→RelV y u→r x y H Q→
  subscripted slice false v u=operate [v,u] (getItem v u)→wpAny (model X.prog X.w) X.A (subscriptTail value slice v u) (EP X pins σ Q) X.xe s
def MtR(X:Cx)(id:String)(r:V→List V→Hp→VK→Prop):Prop:=
 ∀(pins:List (Addr×Obj))(s:Shared)(σ:St)(H:Hp)(x:V)(xs:List V)(v:Value)(us:List Value)(Q:VK),Inv X pins σ H s→RelV x v→Vals xs us→r x xs H Q→
  wpAny (model X.prog X.w) X.A (call (.builtin id) (v::us)) (EP X pins σ Q) X.xe s
section
variable {X:Cx}{a b:Expr}{ta tb:TE}{pos:Pos}
theorem dz{r:R2}(hr:IxR X r)(ha:PE X a ta)(hb:PE X b tb)(hs:GC b):PE X (.Subscript a b pos) (tOp r ta tb):=by
 intro pins s σ H Q I h;exact Subscript_ (Jg ha hb I h λv u s2 x y H2 I2 rx ry q=>hr a b pins s2 σ H2 x y v u Q I2 rx ry q (hs _ _))
def CM(K:PySem.W.Frag):R2:=λx y H Q=>∃p xs i v,x=.ref p∧y=.int i∧SqL K H p xs∧atI xs i=some v∧Q v H
def K4:R2:=λx y H Q=>∃z i c,x=.str z∧y=.int i∧z.length≤sizeLine∧atI z.cps.toList i=some c∧Q (.str ⟨#[c]⟩) H
theorem bD:IxR X (CM X.K):=by
 intro value slice pins s σ H x y v u Q I rx ry h hs;obtain⟨p,xs,i,z,rfl,rfl,hq,he,q⟩:=h;cases rx;obtain⟨t,rfl⟩:=ry;obtain⟨its,r,pl,hz⟩:=I.list hq;obtain⟨j,h1,h2,h3,h4,h5⟩:=Cr he;obtain⟨w,ew,rw'⟩:=r.get h2;have hl:=r.length;have hn:=A1;have fin:EP X pins σ Q w s:=⟨z,H,I,rw',q⟩
 by_cases h0:0≤i
 ·have hj:i.toNat=j:=by
   rw[seqIndex_of h0 h5]at h1;exact Option.some.inj h1
  exact item_listR pl.isList h0 (by omega) (by rw[hj];simpa using ew) fin hs
 ·have hj:(i+(its.toArray.size:Int)).toNat=j:=by
   rw[seqIndex_neg (by omega) h4]at h1
   rw[List.size_toArray,←hl];exact Option.some.inj h1
  exact subscriptTail_builtinR (x:=w) pl.isList.typeIs slot_list_getitem.lookup
   (wpAny_getItem_list_neg (Q:=λr s'=>r=w∧EP X pins σ Q r s') pl.isList (by omega) (by rw[List.size_toArray]<;>omega) (by omega) (by rw[hj];simpa using ew) ⟨rfl,fin⟩) hs
theorem II:IxR X K4:=by
 intro value slice pins s σ H x y v u Q I rx ry h hs;obtain⟨z,i,c,rfl,rfl,hz,he,q⟩:=h;obtain⟨t,rfl⟩:=rx;obtain⟨t',rfl⟩:=ry;obtain⟨j,h1,h2,h3,h4,h5⟩:=Cr he;have hl:z.cps.toList.length=z.length:=by simp[Str.length]
 rw[hl]at h1 h4 h5;have hn:=A1;exact tail_any (typeIs_str s z t) slot_str_getitem.lookup (getItem_str (c:=c) (by
  have e1:decide (i< -(2^63:Int))=false:=decide_eq_false (by omega)
  have e2:decide (i≥2^63)=false:=decide_eq_false (by omega)
  rw[e1,e2,Bool.or_false]) (by rw[h1];simpa using h2) ⟨.str ⟨#[c]⟩,H,I.tok _,⟨_,rfl⟩,q⟩) hs
theorem yf(lo hi:Option Int)(n:Nat):(sliceBounds lo hi none n).1=((HT.sIx n 0 lo:Nat):Int)∧(sliceBounds lo hi none n).2.1=((HT.sIx n n hi:Nat):Int)∧(sliceBounds lo hi none n).2.2=1:=by
 refine⟨?_,?_,rfl⟩
 ·cases lo with
  |none=>simp[sliceBounds,HT.sIx]
  |some i=>
   simp only[sliceBounds,HT.sIx,Option.getD_none,show(1:Int)>0 by decide,if_true]
   by_cases h:i<0
   ·simp only[h,if_true]<;>omega
   ·simp only[h,if_false]<;>omega
 ·cases hi with
  |none=>simp[sliceBounds,HT.sIx]
  |some i=>
   simp only[sliceBounds,HT.sIx,Option.getD_none,show(1:Int)>0 by decide,if_true]
   by_cases h:i<0
   ·simp only[h,if_true]<;>omega
   ·simp only[h,if_false]<;>omega
theorem wI(its:List Value)(lo hi:Option Int):slicePick its.toArray lo hi none=((its.drop (HT.sIx its.length 0 lo)).take (HT.sIx its.length its.length hi-HT.sIx its.length 0 lo)).toArray:=by
 obtain⟨h1,h2,h3⟩:=yf lo hi its.toArray.size;unfold slicePick;rw[h1,h2,h3];simp only[sliceRange_one,pick_run,List.size_toArray]<;>rfl
def J4(K:PySem.W.Frag):V→Option Int→Option Int→Hp→VK→Prop:=λx lo hi H Q=>∃a xs,x=.ref a∧SqL K H a xs∧∀p,H p=none→Q (.ref p) (upd H p (.lst (wx xs lo hi)))
theorem lQ:SlR X (J4 X.K):=by
 intro pins s σ H x v vl vu lo hi sl Q I rx hs pl pu h;obtain⟨a,xs,rfl,hx,q⟩:=h;cases rx;obtain⟨its,r,ht,hz⟩:=I.list hx;have hlen:=r.length;refine⟨"list",_,slot_list_getitem.lookup,ht.isList.typeIs,?_⟩;refine wpAny_getItem_list_slice ht.isList hs pl pu .none (by simp) ?_ (by rw[List.size_toArray]<;>omega)
 rw[wI,←hlen];refine⟨.ref s.heap.objs.size,_,I.laid (t':=s.toks) (o:=.lst (wx xs lo hi)) (λb ob q=>Heap.get?_push_of_some _ q) (Nat.le_refl _) ?_,rfl,q _ (I.hok.fresh (Nat.le_refl _))⟩;exact⟨Nat.le_trans (Af xs lo hi) hz,_,0,(r.drop (HT.sIx xs.length 0 lo)).take (HT.sIx xs.length xs.length hi-HT.sIx xs.length 0 lo),Heap.get?_push_size _ rfl⟩
def su:V→Bool
 |.non=>true
 |.bl _=>true
 |.int _=>true
 |.str _=>true
 |_=>false
def eqV:V→V→Bool
 |.non,.non=>true
 |.bl a,.bl b=>a==b
 |.bl a,.int b=>(if a then 1 else 0)==b
 |.int a,.bl b=>a==(if b then 1 else 0)
 |.int a,.int b=>a==b
 |.str a,.str b=>a==b
 |_,_=>false
theorem IW{A:Around}{s:Shared}{y x:V}{u v:Value}(ry:RelV y u)(rx:RelV x v)(fy:su y=true)(fx:su x=true):SeqAt.EqAt A s u v (eqV y x):=by
 cases y with
 |non=>
  cases ry;cases x with
  |non=>cases rx;exact SeqAt.EqAt.same _
  |bl b=>cases rx;exact SeqAt.EqAt.none_bool b
  |int b=>obtain⟨t,rfl⟩:=rx;exact SeqAt.EqAt.none_int b t
  |str b=>obtain⟨t,rfl⟩:=rx;exact SeqAt.EqAt.none_str b t
  |_=>exact absurd (show false=true from fx) Bool.false_ne_true
 |bl a=>
  cases ry;cases x with
  |non=>cases rx;exact SeqAt.EqAt.bool_none a
  |bl b=>cases rx;exact SeqAt.EqAt.bool_bool a b
  |int b=>obtain⟨t,rfl⟩:=rx;exact SeqAt.EqAt.bool_int a b t
  |str b=>obtain⟨t,rfl⟩:=rx;exact SeqAt.EqAt.bool_str a b t
  |_=>exact absurd (show false=true from fx) Bool.false_ne_true
 |int a=>
  obtain⟨t',rfl⟩:=ry;cases x with
  |non=>cases rx;exact SeqAt.EqAt.int_none a t'
  |bl b=>cases rx;exact SeqAt.EqAt.int_bool a t' b
  |int b=>obtain⟨t,rfl⟩:=rx;exact SeqAt.EqAt.int_int a t' b t
  |str b=>obtain⟨t,rfl⟩:=rx;exact SeqAt.EqAt.int_str a t' b t
  |_=>exact absurd (show false=true from fx) Bool.false_ne_true
 |str a=>
  obtain⟨t',rfl⟩:=ry;cases x with
  |non=>cases rx;exact SeqAt.EqAt.str_none a t'
  |bl b=>cases rx;exact SeqAt.EqAt.str_bool a t' b
  |int b=>obtain⟨t,rfl⟩:=rx;exact SeqAt.EqAt.str_int a t' b t
  |str b=>obtain⟨t,rfl⟩:=rx;exact SeqAt.EqAt.str_str a t' b t
  |_=>exact absurd (show false=true from fx) Bool.false_ne_true
 |_=>exact absurd (show false=true from fy) Bool.false_ne_true
def eqU(x:V)(u:Value):Bool:=match u with
 |.none=>eqV .non x
 |.bool b=>eqV (.bl b) x
 |.int i _=>eqV (.int i) x
 |.str z _=>eqV (.str z) x
 |_=>false
theorem EO{x y:V}{u:Value}(r:RelV y u)(f:su y=true):eqU x u=eqV y x:=by
 cases y with
 |non=>cases r;rfl
 |bl b=>cases r;rfl
 |int i=>obtain⟨t,rfl⟩:=r;rfl
 |str z=>obtain⟨t,rfl⟩:=r;rfl
 |_=>exact absurd (show false=true from f) Bool.false_ne_true
theorem sI{x:V}:∀{xs:List V}{us:List Value},Vals xs us→xs.all su=true→us.any (eqU x)=xs.any λy=>eqV y x
 |_,_,.nil,_=>rfl
 |y::xs,u::us,.cons r t,f=>by
  rw[List.all_cons,Bool.and_eq_true]at f;rw[List.any_cons,List.any_cons,EO r f.1,sI t f.2]
theorem oy{A:Around}{s:Shared}{x:V}{v:Value}(rx:RelV x v)(fx:su x=true):∀{xs:List V}{us:List Value},Vals xs us→xs.all su=true→∀u∈us,SeqAt.EqAt A s u v (eqU x u)
 |_,_,.nil,_=>λu hu=>by cases hu
 |y::xs,u::us,.cons r t,f=>λu' hu=>by
  rw[List.all_cons,Bool.and_eq_true]at f;rcases List.mem_cons.mp hu with rfl|hu
  ·rw[EO r f.1];exact IW r rx f.1 fx
  ·exact oy rx fx t f.2 u' hu
def inV(x:V)(xs:List V):Bool:=xs.any λy=>eqV y x
def rIn(K:PySem.W.Frag)(neg:Bool):R2:=λx y H Q=>∃p xs,y=.ref p∧(SqL K H p xs∨SqT K H p xs)∧su x=true∧xs.all su=true∧Q (.bl (if neg then !inV x xs else inV x xs)) H
theorem fA:OpR X (compareOp .In) (rIn X.K false):=by
 intro pins s σ H x y v u Q I rx ry h;obtain⟨p,xs,rfl,hq,fx,fs,q⟩:=h;cases ry;rcases hq with hq|hq
 ·obtain⟨its,r,pl,hz⟩:=I.list hq;refine SeqAt.in_listAt (eqU x) pl.isList (λw hw=>oy rx fx r fs w (by simpa using hw)) ⟨.bl _,H,I,rfl,?_⟩
  rw[show its.toArray.any (eqU x)=its.any (eqU x)by simp,sI r fs]
  exact q
 ·obtain⟨its,r,pl,hz⟩:=I.tuple hq;refine SeqAt.in_tupleAt (eqU x) pl (λw hw=>oy rx fx r fs w (by simpa using hw)) ⟨.bl _,H,I,rfl,?_⟩
  rw[show its.toArray.any (eqU x)=its.any (eqU x)by simp,sI r fs]
  exact q
theorem yt:OpR X (compareOp .NotIn) (rIn X.K true):=by
 intro pins s σ H x y v u Q I rx ry h;obtain⟨p,xs,rfl,hq,fx,fs,q⟩:=h;cases ry;rcases hq with hq|hq
 ·obtain⟨its,r,pl,hz⟩:=I.list hq;refine SeqAt.notIn_listAt (eqU x) pl.isList (λw hw=>oy rx fx r fs w (by simpa using hw)) ⟨.bl _,H,I,rfl,?_⟩
  rw[show its.toArray.any (eqU x)=its.any (eqU x)by simp,sI r fs]
  exact q
 ·obtain⟨its,r,pl,hz⟩:=I.tuple hq;refine SeqAt.notIn_tupleAt (eqU x) pl (λw hw=>oy rx fx r fs w (by simpa using hw)) ⟨.bl _,H,I,rfl,?_⟩
  rw[show its.toArray.any (eqU x)=its.any (eqU x)by simp,sI r fs]
  exact q
theorem aD:sN X (.builtin "len") (λxs H Q=>∃p ys,xs=[.ref p]∧(SqL X.K H p ys∨SqT X.K H p ys)∧Q (.int ys.length) H):=by
 intro pins s σ H xs us Q I r h;obtain⟨p,ys,rfl,hq,q⟩:=h;obtain⟨u,rfl,rx⟩:=vals1 r;cases rx;have hn:=A1;rcases hq with hq|hq
 ·obtain⟨its,r',pl,hz⟩:=I.list hq;have hlen:=r'.length;exact Calls.call_len_list pl.isList (by simp only[List.size_toArray]<;>omega) ⟨.int ys.length,H,I.tok _,⟨s.toks+1,by rw[List.size_toArray,hlen]⟩,q⟩
 ·obtain⟨its,r',pl,hz⟩:=I.tuple hq;have hlen:=r'.length;exact len_tuple pl (by simp only[List.size_toArray]<;>omega) ⟨.int ys.length,H,I.tok _,⟨s.toks+1,by rw[List.size_toArray,hlen]⟩,q⟩
theorem kS:sN X (.type "tuple") (λxs H Q=>∃p ys,xs=[.ref p]∧((SqL X.K H p ys∧∀l,H l=none→Q (.ref l) (upd H l (.tup ys)))∨(SqT X.K H p ys∧Q (.ref p) H))):=by
 intro pins s σ H xs us Q I r h;obtain⟨p,ys,rfl,h⟩:=h;obtain⟨u,rfl,rx⟩:=vals1 r;cases rx;rcases h with⟨hq,q⟩|⟨hq,q⟩
 ·obtain⟨its,r',pl,hz⟩:=I.list hq;have hlen:=r'.length;refine call_tuple_list pl.isList (λh' kp=>?_) (by simp only[List.size_toArray]<;>omega)
  have I1:Inv X pins σ H {s with heap:=h'}:=I.kept (t':=s.toks) kp
  have I2:Inv X pins σ (upd H h'.objs.size (.tup ys)) {s with heap:=h'.push {cls:=.type "tuple",data:=.seq its.toArray}}:=
   I1.laid (t':=s.toks) (λb o e=>Heap.get?_push_of_some _ e) (Nat.le_refl _) (show bM X.prog X.w _ _ _ (.tup ys)from⟨hz,its,r',IsTup.new _ _⟩)
  exact⟨.ref h'.objs.size,_,I2,rfl,q _ (I1.hok.fresh (Nat.le_refl _))⟩
 ·obtain⟨its,r',pl,hz⟩:=I.tuple hq;exact call_tuple_same pl ⟨.ref p,H,I,rfl,q⟩
def tyV(K:PySem.W.Frag)(T:String)(x:V)(H:Hp):Prop:=match x with
 |.str _=>T="str"
 |.int _=>T="int"
 |.ref p=>(T="list"∧∃xs,SqL K H p xs)∨(T="tuple"∧∃o,K.lookup p=some o∧o.cls=.type "tuple"∧o.dict=none)∨
   (T="dict"∧((∃kvs,H p=some (.dK kvs))∨∃kvs,H p=some (.dT kvs)))∨(T="set"∧∃S n,H p=some (.set S n))
 |_=>False
theorem Dt{pins:List (Addr×Obj)}{σ:St}{H:Hp}{s:Shared}{T:String}{x:V}{v:Value}(I:Inv X pins σ H s)(r:RelV x v)(ty:tyV X.K T x H):
  s.TypeIs v T∧∀a,v=.ref a→∃ob,s.heap.get? a=some ob∧ob.dict=none:=by
 cases x with
 |str z=>
  obtain⟨t,rfl⟩:=r;cases(show T="str"from ty);exact⟨typeIs_str s z t,λ_ e=>nomatch e⟩
 |int i=>
  obtain⟨t,rfl⟩:=r;cases(show T="int"from ty);exact⟨typeIs_int s i t,λ_ e=>nomatch e⟩
 |ref p=>
  cases r;rcases ty with⟨rfl,xs,hq⟩|⟨rfl,o,hk,hc,hd⟩|⟨rfl,hk⟩|⟨rfl,S,n,hk⟩
  ·obtain⟨its,_,pl,_⟩:=I.list hq;refine⟨pl.isList.typeIs,λa e=>?_⟩;cases e;obtain⟨o,n,e,c,hd,_⟩:=pl;exact⟨o,e,hd⟩
  ·refine⟨⟨o,I.kIn p o hk,hc⟩,λa e=>?_⟩;cases e;exact⟨o,I.kIn _ o hk,hd⟩
  ·have z:∃o,s.heap.get? p=some o∧o.ExactDict:=by
    rcases hk with⟨kvs,hk⟩|⟨kvs,hk⟩
    ·obtain⟨_,_,_,_,o,_,_,e,ex,_⟩:=I.hok p _ hk;exact⟨o,e,ex⟩
    ·obtain⟨_,_,_,_,o,_,_,e,ex,_⟩:=I.hok p _ hk;exact⟨o,e,ex⟩
   obtain⟨o,e,ex⟩:=z;refine⟨⟨o,e,ex.1⟩,λa e2=>?_⟩;cases e2;exact⟨o,e,ex.2.1⟩
  ·obtain⟨o,_,_,_,e,ex,_⟩:=I.hok p _ hk;refine⟨⟨o,e,ex.1⟩,λa e2=>?_⟩;cases e2;exact⟨o,e,ex.2.1⟩
 |_=>exact False.elim ty
def Jz(K:PySem.W.Frag)(T:String)(r:V→List V→Hp→VK→Prop)(to:TE):TE:=λσ H Q=>to σ H λx H1=>tyV K T x H1∧r x [] H1 Q
def tBM(K:PySem.W.Frag)(T:String)(r:V→List V→Hp→VK→Prop)(to:TE)(t:TA):TE:=λσ H Q=>to σ H λx H1=>tyV K T x H1∧t σ H1 λxs H2=>r x xs H2 Q
variable {o e:Expr}{es:List Expr}{to:TE}{t:TA}{name:Str}{apos cpos:Pos}{T id:String}{r:V→List V→Hp→VK→Prop}
theorem vH(pa:PlainAttrs T)(slot:Slot T name id)(hty:typeOf (.builtin id)=pure (.type "method_descriptor"))(hm:MtR X id r)(ho:PE X o to)
  (hbase:attributeBase o name X.env (eval o X.env)=eval o X.env:=by rfl)(hline:(apos.endLine==cpos.line)=true:=by rfl):PE X (.Call (.Attribute o name apos) [] [] cpos) (Jz X.K T r to):=by
 intro pins s σ H Q I h;refine wpAny_Call_method0_late hbase hline (thn (ho pins s σ H _ I h) λv s1⟨x,H1,I1,r1,ty,q1⟩=>?_);obtain⟨h1,h2⟩:=Dt I1 r1 ty;exact⟨T,id,pa,slot,hty,h1,h2,Calls.callWith_builtin rfl (PySem.evalArgs_none (hm pins s1 σ H1 x [] v [] Q I1 r1 .nil q1))⟩
theorem dO(pa:PlainAttrs T)(slot:Slot T name id)(hty:typeOf (.builtin id)=pure (.type "method_descriptor"))(hm:MtR X id r)(ho:PE X o to)(ha:PA X (e::es) t)
  (hbase:attributeBase o name X.env (eval o X.env)=eval o X.env:=by rfl)
  (hfew:((backTo cpos (starEach (e::es) X.env)).all (λx=>!x.1)&&(backToKw cpos (keywordEach [] X.env)).all (λx=>x.1.isSome)
   &&decide ((e::es).length+([]:List Keyword).length+(if([]:List Keyword).isEmpty then 0 else 1)<30))=true:=by rfl)
  (hline:(apos.endLine==cpos.line)=true:=by rfl)(hs:starEach (e::es) X.env=(false,eval e X.env)::starEach es X.env:=by rfl)(hplain:(backTo cpos (starEach es X.env)).any (·.1)=false:=by rfl):
  PE X (.Call (.Attribute o name apos) (e::es) [] cpos) (tBM X.K T r to t):=by
 intro pins s σ H Q I h;refine wpAny_Call_method_late hbase hfew hline rfl (thn (ho pins s σ H _ I h) λv s1⟨x,H1,I1,r1,ty,q1⟩=>?_);obtain⟨h1,h2⟩:=Dt I1 r1 ty;refine⟨T,id,pa,slot,hty,h1,h2,?_⟩;have hA:=ha cpos pins s1 σ H1 _ I1 q1;rw[hs]at hA⊢;refine Calls.callWith_builtin (by show(false||(backTo cpos (starEach es X.env)).any (·.1))=false;rw[hplain]<;>rfl) (Calls.evalArgs_plain ?_)
 exact thn hA λus s2⟨vs,H2,I2,r2,q2⟩=>hm pins s2 σ H2 x vs v us Q I2 r1 r2 q2
end
def MtM(X:Cx)(id:String)(r:V→List V→Hp→VK→Prop):Prop:=
 ∀(pins:List (Addr×Obj))(s:Shared)(σ:St)(H:Hp)(x:V)(xs:List V)(v:Value)(us:List Value)(Q:VK),Inv X pins σ H s→RelV x v→Vals xs us→r x xs H Q→
  wpAny (model X.prog X.w) X.A (call (.builtin id) (v::us)) (EP X pins σ Q) X.xe s
theorem Vals.one:∀{x:V}{us:List Value},Vals [x] us→∃u,us=[u]∧RelV x u
 |_,_,.cons r .nil=>⟨_,rfl,r⟩
theorem Vals.zero:∀{us:List Value},Vals [] us→us=[]
 |_,.nil=>rfl
theorem Vals.dropLast{xs:List V}{us:List Value}(h:Vals xs us):Vals xs.dropLast us.dropLast:=by
 induction h with
 |nil=>exact .nil
 |cons r t ih=>
  cases t with
  |nil=>exact .nil
  |cons q t'=>exact .cons r ih
theorem Vals.eraseIdx:∀{xs:List V}{us:List Value}(i:Nat),Vals xs us→Vals (xs.eraseIdx i) (us.eraseIdx i)
 |_,_,_,.nil=>.nil
 |_,_,0,.cons _ t=>t
 |_,_,i+1,.cons r t=>.cons r (Vals.eraseIdx i t)
theorem Bh{α:Type}(l:List α):l.eraseIdx (l.length-1)=l.dropLast:=by
 induction l with
 |nil=>rfl
 |cons a r ih=>
  cases r with
  |nil=>rfl
  |cons b r=>
   have e:(a::b::r).length-1=((b::r).length-1)+1:=by
    have h1:(a::b::r).length=r.length+2:=rfl;have h2:(b::r).length=r.length+1:=rfl;omega
   rw[e,List.eraseIdx_cons_succ,ih]
   all_goals rfl
theorem xD{α:Type}:∀(l:List α)(i:Nat),(l.eraseIdx i).length≤l.length
 |[],_=>Nat.le_refl _
 |_::_,0=>Nat.le_succ _
 |_::r,i+1=>Nat.succ_le_succ (xD r i)
section
variable {X:Cx}{pins:List (Addr×Obj)}{σ:St}{H:Hp}{s:Shared}{l b:Addr}{xs ys zs:List V}
theorem Inv.Gg{its its':List Value}{n:Nat}{f:Array Value→Array Value}{t':Nat}(I:Inv X pins σ H s)(hH:H l=some (.lst xs))
  (e:s.heap.get? l=some {cls:=.type "list",data:=.seq its.toArray n})(hf:f its.toArray=its'.toArray)(hv:Vals ys its')(hz:ys.length≤sizeLine):
  Inv X pins σ (upd H l (.lst ys)) {s with heap:=s.heap.update l (Obj.mapSeq f),toks:=t'}:=by
 have q:=PySem.IsL.update e f;rw[hf]at q;refine I.write (x:=l) (e:=l) (by rw[hH];exact trivial) (.inl rfl) (λb' u hb hu=>(Heap.get?_update_other s.heap (Obj.mapSeq f) (Ne.symm hb)).trans hu) ⟨_,q⟩ ?_
 exact⟨hz,its',_,hv,q⟩
theorem Inv.La{its:List Value}{t':Nat}(I:Inv X pins σ H s)(hv:Vals ys its)(hz:ys.length≤sizeLine):
  Inv X pins σ (upd H s.heap.objs.size (.lst ys)) {s with heap:=s.heap.push {cls:=.type "list",data:=.seq its.toArray},toks:=t'}:=
 I.laid (λ_ _ q=>Heap.get?_push_of_some _ q) (Nat.le_refl _) ⟨hz,its,0,hv,Heap.get?_push_size _ rfl⟩
theorem Inv.fresh(I:Inv X pins σ H s):H s.heap.objs.size=none:=I.hok.fresh (Nat.le_refl _)
theorem Inv.AZ(I:Inv X pins σ H s)(hH:H l=some (.lst xs)):xs.length≤sizeLine∧∃(its:List Value)(n:Nat),Vals xs its∧xs.length=its.length∧s.heap.get? l=some {cls:=.type "list",data:=.seq its.toArray n}:=by
 obtain⟨z,its,n,r,e⟩:=I.hok l _ hH;exact⟨z,its,n,r,r.length,e⟩
theorem Ei{n:Nat}(h:n≤sizeLine):Builtin.List.listTooLong n=false:=by
 unfold Builtin.List.listTooLong;exact decide_eq_false (by omega)
end
section
variable {X:Cx}
def ja:V→List V→Hp→VK→Prop:=λx vs H Q=>∃l xs y,x=.ref l∧vs=[y]∧H l=some (.lst xs)∧xs.length<sizeLine∧Q .non (upd H l (.lst (xs++[y])))
theorem bq:MtM X "list.append" ja:=by
 intro pins s σ H x vs v us Q I rx rv h;obtain⟨l,xs,y,rfl,rfl,hH,hz,q⟩:=h;cases rx;obtain⟨u,rfl,ru⟩:=rv.one;obtain⟨z,its,n,r,hl,e⟩:=I.AZ hH;refine call_meets F.slot_list_append ⟨_,e,rfl⟩ F.entry_list_append (F.args_list_append_2 _ _) (PySem.list_append l its.toArray n u (by rw[List.size_toArray];omega)) ⟨e,?_⟩
 refine⟨.non,_,I.Gg (its':=its++[u]) hH e (by simp) (r.append (.cons ru .nil)) ?_,rfl,q⟩
 rw[List.length_append,List.length_singleton];omega
def BO:V→List V→Hp→VK→Prop:=λx vs H Q=>∃l b xs zs,x=.ref l∧vs=[.ref b]∧H l=some (.lst xs)∧H b=some (.lst zs)∧xs.length+zs.length≤sizeLine∧Q .non (upd H l (.lst (xs++zs)))
theorem tM:MtM X "list.extend" BO:=by
 intro pins s σ H x vs v us Q I rx rv h;obtain⟨l,b,xs,zs,rfl,rfl,hH,hB,hz,q⟩:=h;cases rx;obtain⟨u,rfl,ru⟩:=rv.one;cases ru;obtain⟨z,its,n,r,hl,e⟩:=I.AZ hH;obtain⟨z2,its2,n2,r2,hl2,e2⟩:=I.AZ hB;have hsz:its.toArray.size+its2.toArray.size≤sizeLine:=by rw[List.size_toArray,List.size_toArray];omega
 have hlong:¬(!its.toArray.isEmpty&&Builtin.List.listTooLong (its.toArray.size+its2.toArray.size))=true:=by
  rw[Ei hsz,Bool.and_false];exact Bool.false_ne_true
 refine call_meets F.slot_list_extend ⟨_,e,rfl⟩ F.entry_list_extend (F.args_list_extend_2 _ _)
  (AutoSeq1.list_extend_list_list_0 l its.toArray n b its2.toArray n2 hlong (by rw[List.size_toArray];omega) (by omega)) ⟨e,e2,?_⟩
 refine⟨.non,_,I.Gg (its':=its++its2) hH e (by simp) (r.append r2) ?_,rfl,q⟩
 rw[List.length_append];omega
def K3:V→List V→Hp→VK→Prop:=λx vs H Q=>∃l xs y,x=.ref l∧vs=[]∧H l=some (.lst xs)∧xs[xs.length-1]?=some y∧Q y (upd H l (.lst xs.dropLast))
theorem vV:MtM X "list.pop" K3:=by
 intro pins s σ H x vs v us Q I rx rv h;obtain⟨l,xs,y,rfl,rfl,hH,hy,q⟩:=h;cases rx;have hus:=rv.zero;subst hus;obtain⟨z,its,n,r,hl,e⟩:=I.AZ hH;obtain⟨u,hu,ru⟩:=r.get hy;have hy':its.toArray[its.toArray.size-1]?=some u:=by
  show its.toArray[its.length-1]?=some u;rw[←Array.getElem?_toList,←hl];exact hu
 refine call_meets F.slot_list_pop ⟨_,e,rfl⟩ F.entry_list_pop (F.args_list_pop_1 _) (MeetsSeq.list_pop_last l its.toArray n u hy' (by rw[List.size_toArray];omega)) ⟨e,?_⟩
 refine⟨y,_,I.Gg (its':=its.dropLast) hH e ?_ r.dropLast ?_,ru,q⟩
 ·show its.toArray.eraseIdxIfInBounds (its.toArray.size-1)=its.dropLast.toArray;rw[List.size_toArray,List.eraseIdxIfInBounds_toArray,Bh]
 ·rw[List.length_dropLast];omega
def Ii:V→List V→Hp→VK→Prop:=λx vs H Q=>∃l xs i k y,x=.ref l∧vs=[.int i]∧H l=some (.lst xs)∧-(2^63)≤i∧i<2^63∧seqIndex? i xs.length=some k∧xs[k]?=some y∧Q y (upd H l (.lst (xs.eraseIdx k)))
theorem En:MtM X "list.pop" Ii:=by
 intro pins s σ H x vs v us Q I rx rv h;obtain⟨l,xs,i,k,y,rfl,rfl,hH,h1,h2,hk,hy,q⟩:=h;cases rx;obtain⟨u,rfl,ru⟩:=rv.one;obtain⟨t,rfl⟩:=ru;obtain⟨z,its,n,r,hl,e⟩:=I.AZ hH;obtain⟨w,hw,rw'⟩:=r.get hy;refine call_meets F.slot_list_pop ⟨_,e,rfl⟩ F.entry_list_pop (F.args_list_pop_2 _ _)
  (MeetsSeq.list_pop_at l its.toArray n i t k w (fitsIndex_both h1 h2) (by rw[List.size_toArray,←hl];exact hk) (by rw[←Array.getElem?_toList];exact hw) (by rw[List.size_toArray];omega)) ⟨e,?_⟩
 refine⟨y,_,I.Gg (its':=its.eraseIdx k) hH e ?_ (r.eraseIdx k) ?_,rw',q⟩
 ·show its.toArray.eraseIdxIfInBounds k=(its.eraseIdx k).toArray;rw[List.eraseIdxIfInBounds_toArray]
 ·have:=xD xs k;omega
def J5:R2:=λx y H Q=>∃l b xs zs,x=.ref l∧y=.ref b∧H l=some (.lst xs)∧H b=some (.lst zs)∧xs.length+zs.length≤sizeLine∧∀p,H p=none→Q (.ref p) (upd H p (.lst (xs++zs)))
theorem yw:OpR X (binaryOp .Add) J5:=by
 intro pins s σ H x y v u Q I rx ry h;obtain⟨l,b,xs,zs,rfl,rfl,hH,hB,hz,q⟩:=h;cases rx;cases ry;obtain⟨z,its,n,r,hl,e⟩:=I.AZ hH;obtain⟨z2,its2,n2,r2,hl2,e2⟩:=I.AZ hB;refine PySem.P.add_list e e2 ?_ (by rw[List.size_toArray,List.size_toArray];omega)
 have ea:its.toArray++its2.toArray=(its++its2).toArray:=by simp
 rw[ea];exact⟨.ref _,_,I.La (t':=s.toks) (r.append r2) (by rw[List.length_append];omega),rfl,q _ I.fresh⟩
end
theorem Vals.ints:∀{ns:List Int}{us:List Value},Vals (ns.map V.int) us→IntsAre us ns
 |[],us,h=>by
  rw[List.map_nil]at h;cases h;exact IntsAre.nil
 |n::ns,us,h=>by
  rw[List.map_cons]at h;cases h with
  |cons r t=>
   obtain⟨k,rfl⟩:=r;exact IntsAre.cons n k (Vals.ints t)
theorem Vals.bls:∀{bs:List Bool}{us:List Value},Vals (bs.map V.bl) us→us=bs.map Value.bool
 |[],us,h=>by
  rw[List.map_nil]at h;cases h;rfl
 |b::bs,us,h=>by
  rw[List.map_cons]at h;cases h with
  |cons r t=>
   cases r;rw[Vals.bls t,List.map_cons]
theorem Vals.JO{a:Addr}{us:List Value}(r:Vals [V.ref a] us):us=[Value.ref a]:=by
 cases r with
 |cons r t=>
  cases t;cases r;rfl
section
variable {prog:Program}{w:World}{A:Around}{E:Value→Shared→Prop}{s:Shared}{l:Addr}{its:List Value}{ns:List Int}{Q:Value→Shared→Prop}
theorem Ff(hh:A.handled=none)(hl:s.heap.IsList l its.toArray)(hi:IntsAre its ns)
  (h:∀h' tk t',(∀b o,s.heap.get? b=some o→h'.get? b=some o)→Q (.int ns.sum t') {s with heap:=h',toks:=tk}):wpAny (model prog w) A (call (.builtin "sum") [.ref l]) Q E s:=by
 obtain⟨xs,e⟩:=hi.allInts.items;have hn:numsOf (intItems xs).toList=ns:=by rw[←e];exact hi.numsOf
 rw[nums_intItems]at hn;rw[e]at hl;refine PySem.sum_intListG hh hl λh' tk t' hk=>?_;have:=h h' tk t' hk;rw[preSum_eq,List.take_of_length_le (by simp),hn];exact this
end
section
variable {X:Cx}
def K1(K:PySem.W.Frag):List V→Hp→VK→Prop:=λvs H Q=>∃(a:Addr)(ns:List Int),vs=[V.ref a]∧SqL K H a (ns.map V.int)∧Q (.int ns.sum) H
theorem Jc(hc:X.calm=true):sN X (.builtin "sum") (K1 X.K):=by
 intro pins s σ H vs us Q I r h;obtain⟨a,ns,rfl,hs,q⟩:=h;obtain⟨its,rv,hl,_⟩:=I.list hs;rw[Vals.JO r];exact Ff (I.ok.hd hc) hl.isList rv.ints λh' tk t' hk=>⟨.int _,H,I.kept hk,⟨_,rfl⟩,q⟩
end
theorem EB{prog:Program}{w:World}{A:Around}{E:Value→Shared→Prop}{s:Shared}{l:Addr}{items:Array Value}{Q:Value→Shared→Prop}(hl:s.heap.IsList l items)
  (h:∀s₂:Shared,s₂={s with heap:=s.heap.push {cls:=.type "list_iterator",data:=.fields #[.ref l,.int 0 0]}}→
   (s₂.heap.IsListIter s.heap.objs.size l 0∧s₂.heap.IsList l items)→l≠s.heap.objs.size→Q (.ref s.heap.objs.size) s₂):wpAny (model prog w) A (pyIter (.ref l)) Q E s:=by
 have hlt:l<s.heap.objs.size:=by obtain⟨_,e,_⟩:=hl;exact Heap.lt_size e
 exact wpAny_pyIter_list hl (h _ rfl ⟨⟨_,Heap.get?_push_size _ rfl,rfl,rfl⟩,hl.push _⟩ (Nat.ne_of_lt hlt))
theorem ze{prog:Program}{w:World}{A:Around}{bs:List Bool}{its:List Value}(e:its=bs.map Value.bool):
  TruthOf prog w A (λi v=>its.toArray[i]?=some v) (λi=>bs.getD i false):=λi v s Q E hv hq=>by
 have hv':its[i]?=some v:=by simpa using hv
 rw[e,List.getElem?_map]at hv';obtain⟨b,hb,rfl⟩:=Option.map_eq_some_iff.mp hv';have hg:bs.getD i false=b:=by rw[List.getD_eq_getElem?_getD,hb]<;>rfl
 have hq':Q (bs.getD i false) s:=hq;rw[hg]at hq';exact wpAny_truthy_bool hq'
theorem all_range:∀bs:List Bool,(List.range bs.length).all (λi=>bs.getD i false)=bs.all id
 |[]=>rfl
 |b::bs=>by
  rw[List.length_cons,List.range_succ_eq_map,List.all_cons,List.all_map,List.all_cons,←all_range bs]
  all_goals rfl
section
variable {X:Cx}
def K5(K:PySem.W.Frag):List V→Hp→VK→Prop:=λvs H Q=>∃(a:Addr)(bs:List Bool),vs=[V.ref a]∧SqL K H a (bs.map V.bl)∧Q (.bl (bs.all id)) H
theorem Jd(hc:X.calm=true):sN X (.builtin "all") (K5 X.K):=by
 intro pins s σ H vs us Q I r h;obtain⟨a,bs,rfl,hs,q⟩:=h;obtain⟨its,rv,hl,_⟩:=I.list hs;rw[Vals.JO r];have hb:=rv.bls;refine call_all_walk (EB hl.isList λs₂ e2 st hne=>?_);subst e2;refine⟨_,_,_,_,_,_,_,rfl,Walks.list (A:=X.A.in1) (I.ok.hd hc) _ a hne its.toArray,st,ze hb,λh' tk hk=>?_⟩;refine⟨.bl _,H,I.kept λb o eo=>hk b o (λhmem=>?_) (Heap.get?_push_of_some _ eo),?_,q⟩
 ·rcases List.mem_cons.mp hmem with e1|hmem
  ·exact absurd (e1▸Heap.lt_size eo) (Nat.lt_irrefl _)
  ·cases hmem
 ·show Value.bool _=Value.bool _;rw[←all_range,hb,List.size_toArray,List.length_map]
end
mutual
inductive Dp(K:PySem.W.Frag)(H:Hp):V→PyData→Prop
 |non:Dp K H .non .none
 |bl (b:Bool):Dp K H (.bl b) (.bool b)
 |int (i:Int):Dp K H (.int i) (.int i)
 |str (x:Str):Dp K H (.str x) (.str x)
 |lst {a:Addr} {xs:List V} {ds:List PyData}:SqL K H a xs→uE K H xs ds→Dp K H (.ref a) (.list ds)
 |tup {a:Addr} {xs:List V} {ds:List PyData}:SqT K H a xs→uE K H xs ds→Dp K H (.ref a) (.tuple ds)
inductive uE(K:PySem.W.Frag)(H:Hp):List V→List PyData→Prop
 |nil:uE K H [] []
 |cons {v:V} {vs:List V} {d:PyData} {ds:List PyData}:Dp K H v d→uE K H vs ds→uE K H (v::vs) (d::ds)
end
section
variable {X:Cx}{pins:List (Addr×Obj)}{σ:St}{H:Hp}{s:Shared}
mutual
theorem Dp.reads(I:Inv X pins σ H s):∀(d:PyData)(v:V)(u:Value),Dp X.K H v d→RelV v u→∃as,Reads s.heap u d as
 |.none,_,_,h,r=>by
  cases h;cases r;exact⟨_,Reads.none⟩
 |.bool b,_,_,h,r=>by
  cases h;cases r;exact⟨_,Reads.bool b⟩
 |.int i,_,_,h,r=>by
  cases h;obtain⟨t,rfl⟩:=r;exact⟨_,Reads.int i t⟩
 |.str x,_,_,h,r=>by
  cases h;obtain⟨t,rfl⟩:=r;exact⟨_,Reads.str x t⟩
 |.list ds,_,_,h,r=>by
  cases h with
  |lst hs ha=>
   cases r;obtain⟨its,rv,⟨o,n,ho,hc,_,hd⟩,_⟩:=I.list hs;obtain⟨as,hr⟩:=Dp.readsAll I ds _ its ha rv;exact⟨_,Reads.list ho hc hd hr⟩
 |.tuple ds,_,_,h,r=>by
  cases h with
  |tup hs ha=>
   cases r;obtain⟨its,rv,⟨o,ho,hc,n,hd⟩,_⟩:=I.tuple hs;obtain⟨as,hr⟩:=Dp.readsAll I ds _ its ha rv;exact⟨_,Reads.tuple ho hc hd hr⟩
 |.dict _,_,_,h,_=>by cases h
theorem Dp.readsAll(I:Inv X pins σ H s):∀(ds:List PyData)(vs:List V)(us:List Value),uE X.K H vs ds→Vals vs us→∃as,ReadsAll s.heap us ds as
 |[],_,_,h,r=>by
  cases h;cases r;exact⟨_,ReadsAll.nil⟩
 |d::ds,_,_,h,r=>by
  cases h with
  |cons h1 h2=>
   cases r with
   |cons r1 r2=>
    obtain⟨as,q1⟩:=Dp.reads I d _ _ h1 r1;obtain⟨bs,q2⟩:=Dp.readsAll I ds _ _ h2 r2;exact⟨_,ReadsAll.cons q1 q2⟩
end
end
section
variable {X:Cx}
def Ik(K:PySem.W.Frag):R2:=λx y H Q=>∃d e,Dp K H x d∧Dp K H y e∧SeqAt.shaped d=true∧SeqAt.shaped e=true∧Q (.bl (PyData.eqv d e)) H
def Ij(K:PySem.W.Frag):R2:=λx y H Q=>∃d e,Dp K H x d∧Dp K H y e∧SeqAt.shaped d=true∧SeqAt.shaped e=true∧Q (.bl (!PyData.eqv d e)) H
theorem Iy(hu:X.A.units+64<cLine):OpR X (compareOp .Eq) (Ik X.K):=by
 intro pins s σ H x y v u Q I rx ry h;obtain⟨d,e,hd,he,sd,se,q⟩:=h;obtain⟨as,r1⟩:=Dp.reads I d x v hd rx;obtain⟨bs,r2⟩:=Dp.reads I e y u he ry;exact SeqAt.compareEq_shaped r1 r2 sd se hu ⟨.bl _,H,I,rfl,q⟩
theorem yu(hu:X.A.units+64<cLine):OpR X (compareOp .NotEq) (Ij X.K):=by
 intro pins s σ H x y v u Q I rx ry h;obtain⟨d,e,hd,he,sd,se,q⟩:=h;obtain⟨as,r1⟩:=Dp.reads I d x v hd rx;obtain⟨bs,r2⟩:=Dp.reads I e y u he ry;exact SeqAt.compareNe_shaped r1 r2 sd se hu ⟨.bl _,H,I,rfl,q⟩
end
abbrev E6(h:Heap)(c:Addr)(v:Option Value):Prop:=h.IsCell c v
def KS(scope sc:Scope):Scope:=
 {scope with names:=scope.names.map λ(n,k)=>if(k==.free&&sc.kind==.function&&sc.names.lookup n==some .cell)then(n,.cell)else(n,k)}
def bL(cells:List (Str×Addr)):List (Str×NameKind)→List (Str×Addr)→List (Str×Addr)
 |[],acc=>acc
 |(n,k)::r,acc=>if k==.free then bL cells r ((n,(cells.lookup n).getD 0)::acc)else bL cells r acc
theorem sx(env:Env)(f:Str×NameKind→List (Str×Addr)→Sem (ForInStep (List (Str×Addr))))
  (hf:∀n k c,f (n,k) c=if k==.free then(do let a←cellOf env n;pure (.yield ((n,a)::c)))else pure (.yield c)):
  ∀(names:List (Str×NameKind))(acc:List (Str×Addr)),(∀y∈names,y.2=.free→∃c,env.cells.lookup y.1=some c)→forIn names acc f=pure (bL env.cells names acc)
 |[],acc,_=>by rw[List.forIn_nil];rfl
 |(n,k)::r,acc,h=>by
  rw[List.forIn_cons,hf];have ih:=λacc=>sx env f hf r acc λy hy=>h y (List.mem_cons_of_mem _ hy);unfold bL
  by_cases hk:(k==NameKind.free)=true
  ·rw[if_pos hk,if_pos hk];obtain⟨c,hc⟩:=h (n,k) List.mem_cons_self (by simpa using hk)
   have e:cellOf env n=pure c:=by unfold cellOf;rw[hc]
   rw[e];have e2:(env.cells.lookup n).getD 0=c:=by rw[hc];rfl
   rw[e2];exact ih _
  ·rw[if_neg hk,if_neg hk];exact ih _
theorem Bk{scope:Scope}{env:Env}(h:∀y∈scope.names,y.2=.free→∃c,env.cells.lookup y.1=some c):closureFor scope env=pure (bL env.cells scope.names []):=by
 simp only[closureFor];rw[sx env _ (λn k c=>rfl) scope.names [] h];rfl
theorem mem_lookup{α:Type}:∀{l:List (Str×α)}{n:Str}{c:α},(n,c)∈l→∃c',l.lookup n=some c'
 |(k,v)::r,n,c,h=>by
  rw[List.lookup_cons];cases hb:n==k with
  |true=>exact⟨_,rfl⟩
  |false=>
   rcases List.mem_cons.mp h with e|h
   ·cases e;simp at hb
   ·exact mem_lookup h
theorem ku{cells:List (Str×Addr)}:∀{names:List (Str×NameKind)}{acc:List (Str×Addr)}{n:Str}{c:Addr},(n,c)∈bL cells names acc→(n,c)∈acc∨((n,.free)∈names∧c=(cells.lookup n).getD 0)
 |[],_,_,_,h=>.inl h
 |(m,k)::r,acc,n,c,h=>by
  unfold bL at h
  split at h
  ·rename_i hk;have hk:k=.free:=by simpa using hk
   rcases ku h with h|⟨h1,h2⟩
   ·rcases List.mem_cons.mp h with e|h
    ·cases e;exact .inr ⟨hk▸List.mem_cons_self,rfl⟩
    ·exact .inl h
   ·exact .inr ⟨List.mem_cons_of_mem _ h1,h2⟩
  ·rcases ku h with h|⟨h1,h2⟩
   ·exact .inl h
   ·exact .inr ⟨List.mem_cons_of_mem _ h1,h2⟩
theorem oP{cells:List (Str×Addr)}:∀{names:List (Str×NameKind)}{acc:List (Str×Addr)}{p:Str×Addr},p∈acc→p∈bL cells names acc
 |[],_,_,h=>h
 |(m,k)::r,acc,p,h=>by
  unfold bL
  split
  ·exact oP (List.mem_cons_of_mem _ h)
  ·exact oP h
theorem oO{cells:List (Str×Addr)}:∀{names:List (Str×NameKind)}{acc:List (Str×Addr)}{n:Str},(n,.free)∈names→(n,(cells.lookup n).getD 0)∈bL cells names acc
 |(m,k)::r,acc,n,h=>by
  unfold bL;rcases List.mem_cons.mp h with e|h
  ·cases e;exact oP List.mem_cons_self
  ·split
   ·exact oO h
   ·exact oO h
theorem lG:∀{names:List (Str×NameKind)}{h:Heap}{acc:List (Str×Addr)}{x:Str}{c:Addr},(x,c)∈cellsFrom h.objs.size names acc→
  (x,c)∈acc∨((x,.cell)∈names∧h.objs.size≤c∧E6 (pushCells h names) c none)
 |[],_,_,_,_,h=>.inl h
 |(n,k)::r,h,acc,x,c,hm=>by
  unfold cellsFrom at hm;unfold pushCells
  split at hm
  ·rename_i hk;rw[if_pos hk];have hk:k=.cell:=by simpa using hk
   rw[←Heap.size_push h {cls:=.type "cell",data:=.cell none}]at hm;rcases lG hm with hm|⟨h1,h2,h3⟩
   ·rcases List.mem_cons.mp hm with e|hm
    ·cases e;exact .inr ⟨hk▸List.mem_cons_self,Nat.le_refl _,_,pushCells_keeps r _ _ _ (Heap.get?_push_size _ rfl),rfl⟩
    ·exact .inl hm
   ·rw[Heap.size_push]at h2;exact .inr ⟨List.mem_cons_of_mem _ h1,Nat.le_of_succ_le h2,h3⟩
  ·rename_i hk;rw[if_neg hk];rcases lG hm with hm|⟨h1,h2,h3⟩
   ·exact .inl hm
   ·exact .inr ⟨List.mem_cons_of_mem _ h1,h2,h3⟩
theorem pz:∀{names:List (Str×NameKind)}{n:Nat}{acc:List (Str×Addr)}{p:Str×Addr},p∈acc→p∈cellsFrom n names acc
 |[],_,_,_,h=>h
 |(m,k)::r,n,acc,p,h=>by
  unfold cellsFrom
  split
  ·exact pz (List.mem_cons_of_mem _ h)
  ·exact pz h
theorem tX:∀{names:List (Str×NameKind)}{n:Nat}{acc:List (Str×Addr)}{x:Str},(x,.cell)∈names→∃c,(x,c)∈cellsFrom n names acc
 |(m,k)::r,n,acc,x,h=>by
  unfold cellsFrom;rcases List.mem_cons.mp h with e|h
  ·cases e;exact⟨n,pz List.mem_cons_self⟩
  ·split
   ·exact tX h
   ·exact tX h
theorem tW:∀{names:List (Str×NameKind)}{h:Heap}{acc:List (Str×Addr)}{x y:Str}{c:Addr},(∀p∈acc,p.2<h.objs.size)→(∀x y c,(x,c)∈acc→(y,c)∈acc→x=y)→
  (x,c)∈cellsFrom h.objs.size names acc→(y,c)∈cellsFrom h.objs.size names acc→x=y
 |[],_,_,_,_,_,_,hi,h1,h2=>hi _ _ _ h1 h2
 |(n,k)::r,h,acc,x,y,c,hl,hi,h1,h2=>by
  unfold cellsFrom at h1 h2
  split at h1
  ·rename_i hk;rw[if_pos hk]at h2;rw[←Heap.size_push h {cls:=.type "cell",data:=.cell none}]at h1 h2;refine tW (h:=h.push _) (λp hp=>?_) (λx y c a b=>?_) h1 h2
   ·rw[Heap.size_push];rcases List.mem_cons.mp hp with rfl|hp
    ·exact Nat.lt_succ_self _
    ·exact Nat.lt_succ_of_lt (hl p hp)
   ·rcases List.mem_cons.mp a with e|a<;>rcases List.mem_cons.mp b with e'|b
    ·cases e;cases e';rfl
    ·cases e;exact absurd (hl _ b) (Nat.lt_irrefl _)
    ·cases e';exact absurd (hl _ a) (Nat.lt_irrefl _)
    ·exact hi _ _ _ a b
  ·rename_i hk;rw[if_neg hk]at h2;exact tW hl hi h1 h2
theorem zK{M:Model}{A:Around}{E:Value→Shared→Prop}{s:Shared}{scope:Scope}{globals:Addr}{closure:List (Str×Addr)}{qual:Str}{func:Option Addr}{code:Value}{around:Env}{builtins:Addr}{Q:Env→Shared→Prop}
  (h:Q (newEnv scope s.heap.objs.size globals (cellsFrom (s.heap.objs.size+1) scope.names closure) qual func code (some around) builtins)
   {s with heap:=pushCells (s.heap.push {cls:=.type "dict",data:=.dict #[]}) scope.names}):
  wpAny M A (newFunctionEnv scope globals closure [] qual func code (some around) builtins) Q E s:=by
 simp only[newFunctionEnv,Option.isSome_some,if_true];refine wpAny_bind (wpAny_alloc ?_);refine wpAny_bind (wpAny_layCells _ (λn k c=>rfl) scope.names closure _ _ ?_);rw[show({s with heap:=s.heap.push {cls:=.type "dict",data:=.dict #[]}}:Shared).heap.objs.size=s.heap.objs.size+1 from Heap.size_push ..]
 rw[List.forIn_nil];exact wpAny_bind (wpAny_pure (wpAny_pure h))
theorem oE{sc:Scope}:∀{names:List (Str×NameKind)}{x:Str}{k:NameKind},
  (names.map λ(n,k)=>if(k==NameKind.free&&sc.kind==.function&&sc.names.lookup n==some .cell)then(n,NameKind.cell)else(n,k)).lookup x=some k→
  ∃k',names.lookup x=some k'∧(k=k'∨(k'=.free∧k=.cell))
 |[],_,_,h=>by simp at h
 |(n,k₀)::r,x,k,h=>by
  have ih:=@oE sc r x k;have h':List.lookup x ((if(k₀==NameKind.free&&sc.kind==.function&&sc.names.lookup n==some .cell)=true then(n,NameKind.cell)else(n,k₀))::(r.map _))=some k:=h
  cases hx:x==n with
  |true=>
   simp only[List.lookup_cons,hx]
   by_cases hc:(k₀==NameKind.free&&sc.kind==.function&&sc.names.lookup n==some .cell)=true
   ·rw[if_pos hc]at h';simp only[List.lookup_cons,hx]at h';cases h';simp only[Bool.and_eq_true,beq_iff_eq]at hc;exact⟨k₀,rfl,.inr ⟨hc.1.1,rfl⟩⟩
   ·rw[if_neg hc]at h';simp only[List.lookup_cons,hx]at h';cases h';exact⟨_,rfl,.inl rfl⟩
  |false=>
   simp only[List.lookup_cons,hx]
   by_cases hc:(k₀==NameKind.free&&sc.kind==.function&&sc.names.lookup n==some .cell)=true
   ·rw[if_pos hc]at h';simp only[List.lookup_cons,hx]at h';exact ih h'
   ·rw[if_neg hc]at h';simp only[List.lookup_cons,hx]at h';exact ih h'
structure Ar(N:List Str)(sc scope:Scope)(own:List (Str×Nat)):Prop where
 kind:scope.kind=.function
 uniq:∀y∈scope.names,scope.names.lookup y.1=some y.2
 ix:∀p∈own,N[p.2]?=some p.1
 free:∀y∈scope.names,y.2=.free→sc.names.lookup y.1=some .cell∨sc.names.lookup y.1=some .free
 own:∀y∈scope.names,y.2=.local∨y.2=.cell→y.1∈own.map (·.1)∨y.1∉N
def wipe(σ:St):List Nat→St
 |[]=>σ
 |v::vs=>(wipe σ vs).set v none
theorem nG(σ:St):∀vs:List Nat,(wipe σ vs).length=σ.length
 |[]=>rfl
 |v::vs=>by unfold wipe;rw[List.length_set,nG σ vs]
theorem sO{σ:St}{i:Nat}{x:V}:∀{vs:List Nat},(wipe σ vs)[i]?=some (some x)→σ[i]?=some (some x)∧i∉vs
 |[],h=>⟨h,by simp⟩
 |v::vs,h=>by
  unfold wipe at h
  by_cases hi:v=i
  ·subst hi
   by_cases hv:v<(wipe σ vs).length
   ·rw[List.getElem?_set_self hv]at h;cases h
   ·rw[List.getElem?_eq_none (by simpa using hv)]at h;cases h
  ·rw[List.getElem?_set_ne hi]at h;obtain⟨h1,h2⟩:=sO h;exact⟨h1,by simp only[List.mem_cons,not_or];exact⟨λe=>hi e.symm,h2⟩⟩
abbrev Cx.blk(X:Cx)(s:Shared)(H:Hp)(scope:Scope)(cenv:Env)(fp:List Addr):Cx:={X with s_0:=s,H_0:=H,env:=cenv,outer:=X.stack,ex:=fp,fn:=λx=>scope.names.lookup x==some .cell,pn:=[],xe:=λ_ _=>False}
section
variable {X:Cx}{pins:List (Addr×Obj)}{σ:St}{H:Hp}{s:Shared}
theorem Ao{scope:Scope}{own:List (Str×Nat)}{fp:List Addr}(I:Inv X pins σ H s)(ok:Ar X.N X.env.scope scope own)(hN:X.N.Nodup)(hfp:∀b∈fp,w6 X pins H b∧b<s.heap.objs.size):
  Inv (X.blk s H scope (compEnvC scope (cellsFrom (s.heap.objs.size+1) scope.names (bL X.env.cells scope.names [])) s.heap.objs.size X.env) fp) [] (wipe σ (own.map (·.2))) H {s with heap:=pushCells (s.heap.push {cls:=.type "dict",data:=.dict #[]}) scope.names}:=by
 have hfree:∀y∈scope.names,y.2=.free→∃c,X.env.cells.lookup y.1=some c:=λy hy e=>by
  rcases ok.free y hy e with k|k
  ·exact I.ok.has _ (.inl k)
  ·exact I.ok.has _ (.inr k)
 generalize hcenv:compEnvC scope (cellsFrom (s.heap.objs.size+1) scope.names (bL X.env.cells scope.names [])) s.heap.objs.size X.env=cenv
 have kp:∀b o,s.heap.get? b=some o→(pushCells (s.heap.push {cls:=.type "dict",data:=.dict #[]}) scope.names).get? b=some o:=λb o e=>pushCells_keeps _ _ _ _ (Heap.get?_push_of_some _ e);have hL:cenv.locals=s.heap.objs.size:=by rw[←hcenv];rfl
 have hcl:cenv.cells=cellsFrom (s.heap.objs.size+1) scope.names (bL X.env.cells scope.names []):=by rw[←hcenv];rfl
 have hsc:cenv.scope=KS scope X.env.scope:=by rw[←hcenv];rfl
 rw[←Heap.size_push s.heap {cls:=.type "dict",data:=.dict #[]}]at hcl;have cm:∀{y c},(y,c)∈bL X.env.cells scope.names []→X.env.cells.lookup y=some c∧c<s.heap.objs.size:=λ{y c}hm=>by
  rcases ku hm with hm|⟨h1,rfl⟩
  ·cases hm
  ·obtain⟨c,hc⟩:=hfree _ h1 rfl;rw[hc];obtain⟨w,z⟩:=I.cell _ _ hc;exact⟨rfl,z.lt⟩
 have mem:∀{y c},cenv.cells.lookup y=some c→(X.env.cells.lookup y=some c∧c<s.heap.objs.size)∨(s.heap.objs.size+1≤c∧E6 (pushCells (s.heap.push {cls:=.type "dict",data:=.dict #[]}) scope.names) c none):=λ{y c}e=>by
  rw[hcl]at e;rcases lG (PySem.mem_of_lookup e)with hm|⟨_,h2,h3⟩
  ·exact .inl (cm hm)
  ·rw[Heap.size_push]at h2;exact .inr ⟨h2,h3⟩
 have look:∀{y},scope.names.lookup y=some .free→∃c,cenv.cells.lookup y=some c∧X.env.cells.lookup y=some c:=λ{y}hl=>by
  have hy:(y,NameKind.free)∈scope.names:=PySem.mem_of_lookup hl;obtain⟨c',e'⟩:=mem_lookup (pz (names:=scope.names) (n:=(s.heap.push {cls:=.type "dict",data:=.dict #[]}).objs.size) (oO (cells:=X.env.cells) (acc:=[]) hy));rw[←hcl]at e';refine⟨c',e',?_⟩;rw[hcl]at e';rcases lG (PySem.mem_of_lookup e')with hm|⟨h1,_,_⟩
  ·exact(cm hm).1
  ·have:=ok.uniq _ h1;rw[hl]at this;cases this
 have okB:(X.blk s H scope cenv fp).Ok:=by
  refine⟨I.ok.mod,by show cenv.scope.kind=_;rw[hsc];exact ok.kind,by show cenv.globals=_;rw[←hcenv];exact I.ok.glob,by show cenv.builtins=_;rw[←hcenv];exact I.ok.blt,by show s.heap.objs.size≤cenv.locals;rw[hL];exact Nat.le_refl _,
   λy z c e1 e2=>?_,λy hy=>?_,λy c z e=>?_,I.ok.hd,I.ok.frames,.inl rfl,λb hb=>⟨?_,λy c e z=>?_⟩,I.bs,Nat.le_trans I.ok.bsz I.sz,λb o e hb=>?_,λb hb z=>?_,I.stack,I.uS⟩
  ·have e1:cenv.cells.lookup y=some c:=e1;have e2:cenv.cells.lookup z=some c:=e2;rw[hcl]at e1 e2;refine tW (λp hp=>?_) (λy z c a b=>I.ok.inj y z c (cm a).1 (cm b).1) (PySem.mem_of_lookup e1) (PySem.mem_of_lookup e2);rw[Heap.size_push];exact Nat.lt_succ_of_lt (cm (y:=p.1) (c:=p.2) hp).2
  ·show∃c,cenv.cells.lookup y=some c;have key:∀k,cenv.kindOf y=some k→(k=.cell∨k=.free)→∃c,cenv.cells.lookup y=some c:=λk hk hk'=>by
    unfold Env.kindOf at hk;rw[hsc]at hk;obtain⟨k',e,r⟩:=oE hk;have:k'=.cell∨k'=.free:=by
     rcases r with rfl|⟨rfl,_⟩
     ·exact hk'
     ·exact .inr rfl
    rcases this with rfl|rfl
    ·obtain⟨c,hm⟩:=tX (n:=(s.heap.push {cls:=.type "dict",data:=.dict #[]}).objs.size) (acc:=bL X.env.cells scope.names []) (PySem.mem_of_lookup e);obtain⟨c',e'⟩:=mem_lookup hm;exact⟨c',by rw[hcl];exact e'⟩
    ·obtain⟨c,h1,_⟩:=look e;exact⟨c,h1⟩
   rcases hy with hy|hy
   ·exact key _ hy (.inl rfl)
   ·exact key _ hy (.inr rfl)
  ·have z:(scope.names.lookup y==some NameKind.cell)=true:=z;have z:scope.names.lookup y=some .cell:=by simpa using z
   have e:cenv.cells.lookup y=some c:=e;rw[hcl]at e;rcases lG (PySem.mem_of_lookup e)with hm|⟨_,h2,_⟩
   ·rcases ku hm with hm|⟨h1,_⟩
    ·cases hm
    ·have q:=ok.uniq _ h1;rw[z]at q;cases q
   ·rw[Heap.size_push]at h2;exact Nat.le_of_succ_le h2
  ·show b≠cenv.locals;rw[hL];exact Nat.ne_of_lt (hfp b hb).2
  ·have e:cenv.cells.lookup y=some c:=e;rcases mem e with⟨h1,_⟩|⟨h1,_⟩
   ·exact(hfp b hb).1.2.2.2.2.1 y c h1 z
   ·have h2:s.heap.objs.size+1≤b:=by rw[←z];exact h1
    exact absurd (Nat.lt_of_lt_of_le (hfp b hb).2 (Nat.le_of_succ_le h2)) (Nat.lt_irrefl _)
  ·rcases(hfp b hb).1.2.2.2.1 with z|z
   ·exact I.ok.AR b o e z
   ·exact absurd (Nat.lt_of_lt_of_le (Heap.lt_size e) (Nat.le_trans I.ok.bsz z)) (Nat.lt_irrefl _)
  ·rcases List.mem_cons.mp (I.yb b z)with z|z
   ·exact(hfp b hb).1.2.1 z
   ·exact(hfp b hb).1.2.2.1 z
 refine⟨okB,rfl,I.bare,Un.kept kp,⟨λ_=>none,?_,λi y av e1 e2 e3=>?_⟩,λy c e=>?_,?_,λy c e=>?_,λp hp=>?_,I.hok.kept kp,by rw[nG];exact I.len⟩
 ·show Heap.Ns _ cenv.locals _;rw[hL];exact Heap.Ns.keeps (Heap.Ns.new ..) λb o e=>pushCells_keeps _ _ _ _ e
 ·obtain⟨e2,hne⟩:=sO e2;have hfr:scope.names.lookup y=some .free∧(cenv.kindOf y=some .cell∨cenv.kindOf y=some .free):=by
   have key:∀k,cenv.scope.names.lookup y=some k→k=.local∨k=.cell∨k=.free→scope.names.lookup y=some .free∧(cenv.kindOf y=some .cell∨cenv.kindOf y=some .free):=λk hk hk'=>by
    have hk0:=hk;rw[hsc]at hk;obtain⟨k',e,r⟩:=oE hk;have no:¬(k'=.local∨k'=.cell):=λhh=>by
     rcases ok.own _ (PySem.mem_of_lookup e) hh with e'|e'
     ·obtain⟨p,hp,hpy⟩:=List.mem_map.mp e';have e3:=ok.ix p hp;have:p.1=y:=hpy;rw[this]at e3;exact hne (List.mem_map.mpr ⟨p,hp,rQ hN e3 e1⟩)
     ·exact e' (List.mem_of_getElem? e1)
    rcases r with rfl|⟨rfl,rfl⟩
    ·rcases hk' with rfl|rfl|rfl
     ·exact absurd (.inl rfl) no
     ·exact absurd (.inr rfl) no
     ·exact⟨e,.inr hk0⟩
    ·exact⟨e,.inl hk0⟩
   have e3:Vis cenv.scope y:=e3;rcases e3 with e3|e3|e3
   ·exact key _ e3 (.inl rfl)
   ·exact key _ e3 (.inr (.inl rfl))
   ·exact key _ e3 (.inr (.inr rfl))
  obtain⟨m,hn,hl⟩:=I.loc;have hvis:Vis X.env.scope y:=(ok.free _ (PySem.mem_of_lookup hfr.1) rfl).elim (λk=>.inr (.inl k)) (λk=>.inr (.inr k));obtain⟨w,r,q⟩:=hl i y av e1 e2 hvis;refine⟨w,r,.inr ⟨hfr.2,?_⟩⟩;obtain⟨c,h1,h2⟩:=look hfr.1;rcases q with⟨k,_⟩|⟨_,c',e',z⟩
  ·have k:X.env.scope.names.lookup y=some .local:=k;rcases ok.free _ (PySem.mem_of_lookup hfr.1) rfl with k'|k'<;>rw[show X.env.scope.names.lookup y=_ from k']at k<;>cases k
  ·rw[h2]at e';cases e';exact⟨c,h1,z.keeps kp⟩
 ·have e:cenv.cells.lookup y=some c:=e;rcases mem e with⟨h1,_⟩|⟨_,z⟩
  ·obtain⟨w,z⟩:=I.cell y c h1;exact⟨w,z.keeps kp⟩
  ·exact⟨_,z⟩
 ·show H cenv.locals=none;rw[hL];exact I.hok.fresh (Nat.le_refl _)
 ·have e:cenv.cells.lookup y=some c:=e;rcases mem e with⟨h1,_⟩|⟨h1,_⟩
  ·exact I.gu y c h1
  ·exact I.hok.fresh (Nat.le_of_succ_le h1)
 ·exact absurd (show p∈([]:List (Addr×Obj))++[]from hp) (by simp)
theorem Ji{E:Value→Shared→Prop}{D:Addr}{xs:List V}{y:V}{v:Value}{Q:Value→Shared→Prop}(I:Inv X pins σ H s)(hD:H D=some (.lst xs))(hz:xs.length<sizeLine)(r:RelV y v)
  (h:∀s',Inv X pins σ (upd H D (.lst (xs++[y]))) s'→Q .none s'):wpAny (model X.prog X.w) X.A (call (.builtin "list.append") [.ref D,v]) Q E s:=by
 obtain⟨hz',its,n,ri,e⟩:=I.hok D _ hD;have hl:=ri.length;refine append_at (hsz:=by rw[List.size_toArray];omega) e λh' sb ho'=>?_
 refine h {s with heap:=h'} (I.write (t':=s.toks) (by rw[hD];trivial) (.inl rfl) (λb u hb q=>(sb.2 b hb).trans q) ⟨_,ho'⟩ ⟨by rw[List.length_append];exact hz,its++[v],n+1,ri.append (.cons r .nil),?_⟩)
 rw[ho'];simp
def PTs(X:Cx)(ifs:List Expr)(t:TT):Prop:=
 ∀(pins:List (Addr×Obj))(s:Shared)(σ:St)(H:Hp)(Q:Bool→Hp→Prop),Inv X pins σ H s→t σ H Q→
  wpAny (model X.prog X.w) X.A (forIn ifs true λc r=>if r=true then do let ok←isTrue c X.env (eval c X.env);pure (ForInStep.yield ok)else pure (ForInStep.yield r)) (TP X pins σ Q) X.xe s
def Hg:TT:=λ_ H Q=>Q true H
theorem uZ:PTs X [] Hg:=λ_ _ _ H _ I h=>wpAny_tests_nil ⟨H,I,h⟩
theorem uY{c:Expr}{t:TT}(h:PT X c t):PTs X [c] t:=λpins s σ H Q I hw=>wpAny_tests_one (h pins s σ H Q I hw)
end
theorem CB{α:Type}{t:Sem α}{Q Q':α→Shared→Prop}{M:Model}{A:Around}{E:Value→Shared→Prop}{s:Shared}(h:wpAny M A t Q (λ_ _=>False) s)(hQ:∀a s,Q a s→Q' a s):wpAny M A t Q' E s:=wpAny_mono h hQ λ_ _ z=>False.elim z
theorem yT{prog:Program}{w:World}{A:Around}{R:Result→Shared→Prop}{s:Shared}{elt target iter:Expr}{ifs:List Expr}{scope:Scope}{pos:Pos}{it acc:Value}{env:Env}(I:Nat→Shared→Prop)
  (turn:∀n s,I n s→wpAny (model prog w) A (pyNext it) (λr s₁=>match r with
   |none=>R (.ok .next) s₁
   |some v=>wpAny (model prog w) A (letOwnedTupleGo target it v) (λ_ s₁'=>wpAny (model prog w) A (assign target env v) (λ_ s₂=>
     wpAny (model prog w) A (forIn ifs true λc r=>if r=true then do let ok←isTrue c env (eval c env);pure (ForInStep.yield ok)else pure (ForInStep.yield r)) (λok s₃=>
      if ok=true then wpAny (model prog w) A (eval elt env) (λx s₄=>
       wpAny (model prog w) A (call (.builtin "list.append") [acc,x]) (λ_ s₅=>∃m,m<n∧I m s₅) (notedBy (model prog w) A env λe s'=>R (.error e) s') s₄) (notedBy (model prog w) A env λe s'=>R (.error e) s') s₃
      else∃m,m<n∧I m s₃) (notedBy (model prog w) A env λe s'=>R (.error e) s') s₂) (notedBy (model prog w) A env λe s'=>R (.error e) s') s₁') (notedBy (model prog w) A env λe s'=>R (.error e) s') s₁) (notedBy (model prog w) A env λe s'=>R (.error e) s') s)
  (n:Nat)(h:I n s):
  codeAny (model prog w) A (.compLoop (.ListComp elt [⟨target,iter,ifs,0⟩] scope pos) 0 it acc env) R s:=by
 refine codeAny_loop rfl I (λn s hI=>?_) n h;show wpAny _ A ((compTurn (.ListComp elt [⟨target,iter,ifs,0⟩] scope pos) 0 it acc env).onRaise (λx=>do noteFrame x env;theTreesLotGoes x)) _ _ s
 refine wpAny_noted ?_;rw[compTurn_list];refine wpAny_bind (wpAny_standAt (wpAny_bind (wpAny_mono (turn n s hI) (λr s₁ h₁=>?_) λ_ _ h'=>h')));cases r with
 |none=>exact wpAny_pure h₁
 |some v=>
  refine wpAny_bind (wpAny_mono h₁ (λ_ s₁' h₁'=>?_) λ_ _ h'=>h');refine wpAny_bind (wpAny_mono h₁' (λ_ s₂ h₂=>wpAny_bind (wpAny_mono h₂ (λok s₃ h₃=>?_) λ_ _ h'=>h')) λ_ _ h'=>h');cases ok with
  |false=>exact wpAny_pure ⟨rfl,h₃⟩
  |true=>
   exact wpAny_bind (wpAny_bind (wpAny_mono h₃ (λx s₄ h₄=>wpAny_bind (wpAny_mono h₄ (λ_ s₅ h₅=>wpAny_pure (wpAny_pure ⟨rfl,h₅⟩)) λ_ _ h'=>h')) λ_ _ h'=>h'))
section
variable {X:Cx}
def tLc(wi:TI)(g:TG)(tt:TT)(te:TE)(vs:List Nat):TE:=λσ H Q=>wi σ H λJ H1=>∀D,H1 D=none→∃W:Nat→Nat→Hp→Prop,(∃m,W 0 m (upd H1 D (.lst [])))∧∀i m H,W i m H→
 (J.stop i H∧Q (.ref D) H)∨(J.go i H∧∃Nx:Hp→Prop,(∀H',Nx H'→∃m',m'<m∧W (i+1) m' H')∧∀x H',J.yld i H x H'→g x (wipe σ vs) H' λσ2 H2=>wipe σ2 vs=wipe σ vs∧tt σ2 H2 λb H3=>
  if b=true then te σ2 H3 λy H4=>∃acc,H4 D=some (.lst acc)∧acc.length<sizeLine∧Nx (upd H4 D (.lst (acc++[y])))else Nx H3)
theorem B4{pins:List (Addr×Obj)}{s:Shared}{σ:St}{H:Hp}{Q:VK}{elt tg iter:Expr}{ifs:List Expr}{scope:Scope}{own:List (Str×Nat)}{pos pos':Pos}{wi:TI}{g:TG}{tt:TT}{te:TE}{use:Option (Value→Sem Unit)}{Qf:Value→Shared→Prop}
  (hc:X.calm=true)(hN:X.N.Nodup)(I:Inv X pins σ H s)(hi:PI X tg iter wi)(ok:Ar X.N X.env.scope scope own)
  (hg:∀(s:Shared)(H:Hp)(C:Addr)(cl:List (Str×Addr))(fp:List Addr),PG (X.blk s H scope (compEnvC scope cl C X.env) fp) tg g)(ht:∀(s:Shared)(H:Hp)(C:Addr)(cl:List (Str×Addr))(fp:List Addr),PTs (X.blk s H scope (compEnvC scope cl C X.env) fp) ifs tt)
  (he:∀(s:Shared)(H:Hp)(C:Addr)(cl:List (Str×Addr))(fp:List Addr),PE (X.blk s H scope (compEnvC scope cl C X.env) fp) elt te)(hs:∀x,foldedSetIterable iter X.env x=pure x)
  (h:tLc wi g tt te (own.map (·.2)) σ H Q)
  (hRR:∀D C s' m H',Inv X pins σ H' s'→Q (.ref D) H'→s'.heap.Ns C m→w6 X pins H' C→compPost (model X.prog X.w) X.A X.xe use Qf (.ref D) C (.ok .next) s'):
  wpAny (model X.prog X.w) X.A (comprehension (.ListComp elt [⟨tg,iter,ifs,0⟩] scope pos) scope X.env pos' (newList []) false (eval iter X.env) use) Qf X.xe s:=by
 have hfree:∀y∈scope.names,y.2=.free→∃c,X.env.cells.lookup y.1=some c:=λy hy e=>by
  rcases ok.free y hy e with k|k
  ·exact I.ok.has _ (.inl k)
  ·exact I.ok.has _ (.inr k)
 refine wpAny_comprehension_free (use:=use) rfl hs (Bk hfree) ok.kind (λy hy e=>by rw[ok.uniq y hy,e])
  (thn (hi pins s σ H _ I h) λxv s1 hx=>thn hx λitv s2 h2=>?_)
 obtain⟨it,fp,tn,J,H2,e,I2,T,st2,f2,q⟩:=h2;subst e;refine wpAny_newObj_type (zK ?_) (by show 0≤sizeLine;decide)
 generalize hD:s2.heap.objs.size=D
 have hDn:H2 D=none:=I2.hok.fresh (Nat.le_of_eq hD);obtain⟨W,⟨m0,w0⟩,turn⟩:=q D hDn
 generalize hs3:({s2 with heap:=s2.heap.push {cls:=.type "list",data:=.seq ([]:List Value).toArray}}:Shared)=s3
 have I3:Inv X pins σ (upd H2 D (.lst [])) s3:=by
  rw[←hs3];refine I2.laid (t':=s2.toks) (λb o e=>Heap.get?_push_of_some _ e) (Nat.le_of_eq hD) ⟨Nat.zero_le _,[],0,.nil,?_⟩;rw[←hD];exact Heap.get?_push_size _ rfl
 have h3:s3.heap=s2.heap.push {cls:=.type "list",data:=.seq ([]:List Value).toArray}:=by rw[←hs3]
 have sz:∀b∈fp,b<s2.heap.objs.size:=λb hb=>by
  obtain⟨o,e,_⟩:=T.obj _ _ st2 b hb;exact Heap.lt_size e
 have f3:∀b∈fp,w6 X pins (upd H2 D (.lst [])) b∧b<s3.heap.objs.size:=λb hb=>by
  have hlt:=sz b hb;refine⟨⟨?_,(f2 b hb).2⟩,by rw[h3,Heap.size_push];exact Nat.lt_succ_of_lt hlt⟩
  rw[ae (by rw[←hD];exact Nat.ne_of_lt hlt)]
  exact(f2 b hb).1
 have st3:tn 0 s3.heap:=T.keep _ _ _ st2 λb _ o e=>by rw[h3];exact Heap.get?_push_of_some _ e
 have I4:=Ao I3 ok hN f3;have pg:=hg s3 (upd H2 D (.lst [])) s3.heap.objs.size (cellsFrom (s3.heap.objs.size+1) scope.names (bL X.env.cells scope.names [])) fp;have pt:=ht s3 (upd H2 D (.lst [])) s3.heap.objs.size (cellsFrom (s3.heap.objs.size+1) scope.names (bL X.env.cells scope.names [])) fp;have pe:=he s3 (upd H2 D (.lst [])) s3.heap.objs.size (cellsFrom (s3.heap.objs.size+1) scope.names (bL X.env.cells scope.names [])) fp;show codeAny _ _ (.compStart (.ListComp elt [⟨tg,iter,ifs,0⟩] scope pos) 0 (.ref it) (.ref D) (compEnvC scope (cellsFrom (s3.heap.objs.size+1) scope.names (bL X.env.cells scope.names [])) s3.heap.objs.size X.env)) (compPost (model X.prog X.w) X.A X.xe use Qf (.ref D) s3.heap.objs.size) {s3 with heap:=pushCells (s3.heap.push {cls:=.type "dict",data:=.dict #[]}) scope.names}
 have nfp:∀b∈fp,(upd H2 D (.lst [])) b=none:=λb hb=>(f3 b hb).1.1
 generalize hce:compEnvC scope (cellsFrom (s3.heap.objs.size+1) scope.names (bL X.env.cells scope.names [])) s3.heap.objs.size X.env=ce at I4 pg pt pe⊢
 have cL:ce.locals=s3.heap.objs.size:=by subst hce;rfl
 generalize hH3:upd H2 D (.lst [])=H3 at I3 I4 pg pt pe w0 nfp f3
 generalize hs4:({s3 with heap:=pushCells (s3.heap.push {cls:=.type "dict",data:=.dict #[]}) scope.names}:Shared)=s4 at I4⊢
 have st4:tn 0 s4.heap:=T.keep _ _ _ st3 λb _ o e=>by rw[←hs4];exact pushCells_keeps _ _ _ _ (Heap.get?_push_of_some _ e)
 have stat:∀{σ':St}{H':Hp}{s':Shared},Inv (X.blk s3 H3 scope ce fp) [] σ' H' s'→(∀b∈fp,H' b=none)→∀b∈fp,w6 (X.blk s3 H3 scope ce fp) [] H' b:=λ{σ' H' s'}I' hn b hb=>
  ⟨hn b hb,(I'.ok.exf b hb).1,I'.ok.Bg b hb,.inl hb,λx c e=>(I'.ok.exf b hb).2 x c e,λp hp=>absurd (show p∈([]:List (Addr×Obj))++[]from hp) (by simp)⟩
 have loop:codeAny (model X.prog X.w) X.A (.compLoop (.ListComp elt [⟨tg,iter,ifs,0⟩] scope pos) 0 (.ref it) (.ref D) ce) (compPost (model X.prog X.w) X.A X.xe use Qf (.ref D) s3.heap.objs.size) s4:=by
  refine yT (λn s'=>∃i H',Inv (X.blk s3 H3 scope ce fp) [] (wipe σ (own.map (·.2))) H' s'∧tn i s'.heap∧(∀b∈fp,H' b=none)∧W i n H') ?_ m0 ⟨0,H3,I4,st4,nfp,w0⟩
  rintro n s5 ⟨i,H5,I5,st5,n5,w5⟩;rcases turn i n H5 w5 with⟨stop,qq⟩|⟨go,Nx,hNx,step⟩
  ·have td:=T.done (X.blk s3 H3 scope ce fp) rfl rfl rfl hc i [] s5 _ H5 (λ_ _=>False) I5 (stat I5 n5) st5 stop;refine CB td λr s6⟨hr,I6⟩=>?_;subst hr;have I7:Inv X pins σ H5 s6:=I3.Co (ch:=fp) I6.os I6.base I6.hok I6.bare λb hb=>⟨(f3 b hb).1.2.2.2.1,(f3 b hb).1.2.1,(f3 b hb).1.2.2.2.2.1,(f3 b hb).1.2.2.2.2.2⟩;have nC:H5 s3.heap.objs.size=none:=by
    have z:H5 ce.locals=none:=I6.free;rw[cL]at z;exact z
   obtain⟨m,hn,_⟩:=I6.loc;have hn:s6.heap.Ns ce.locals m:=hn;rw[cL]at hn;exact hRR D s3.heap.objs.size s6 m H5 I7 qq hn (I3.Gu (Nat.le_refl _) nC)
  ·have ti:=T.item (X.blk s3 H3 scope ce fp) rfl rfl rfl hc i [] s5 _ H5 (λ_ _=>False) I5 (stat I5 n5) st5 go;refine CB ti λr s6⟨u,hr,h6⟩=>?_;subst hr;refine CB h6 λ_ s7⟨x,H7,I7,r7,y7,st7,n7⟩=>?_;have I7':=I7.pinned (stat I7 n7) (T.obj _ _ st7);refine CB (pg _ s7 _ H7 x u _ I7' r7 (step x H7 y7)) λ_ s8⟨σ8,H8,I8,hw8,q8⟩=>?_;refine CB (pt _ s8 σ8 H8 _ I8 q8) λb s9⟨H9,I9,q9⟩=>?_;have fin:∀{s':Shared}{H':Hp},Inv (X.blk s3 H3 scope ce fp) ([]++vE fp s7.heap) σ8 H' s'→Nx H'→∃m,m<n∧∃i H',Inv (X.blk s3 H3 scope ce fp) [] (wipe σ (own.map (·.2))) H' s'∧tn i s'.heap∧(∀b∈fp,H' b=none)∧W i m H':=λ{s' H'}I' nx=>by
    obtain⟨m',hm,w'⟩:=hNx H' nx;have pin':∀b∈fp,∀o,s7.heap.get? b=some o→s'.heap.get? b=some o∧H' b=none:=λb hb o e=>
     let z:=I'.pin (b,o) (List.mem_append_right _ (List.mem_append_right _ (qU hb e)))
     ⟨z.1,z.2.1⟩
    have hl:(wipe σ (own.map (·.2))).length=σ8.length:=by rw[←hw8,nG]
    refine⟨m',hm,i+1,H',(I'.rj (pins:=[])).weak hl (λj v e=>?_),T.keep _ _ _ st7 λb hb o e=>(pin' b hb o e).1,λb hb=>?_,w'⟩
    ·rw[←hw8]at e;exact(sO e).1
    ·obtain⟨o,e,_⟩:=T.obj _ _ st7 b hb;exact(pin' b hb o e).2
   cases b with
   |false=>
    simp only[Bool.false_eq_true,if_false]at q9⊢;exact fin I9 q9
   |true=>
    simp only[if_true]at q9⊢;refine CB (pe _ s9 σ8 H9 _ I9 q9) λz s10⟨yv,H10,I10,r10,acc,hD10,hz10,nx⟩=>?_;exact Ji (X:=X.blk s3 H3 scope ce fp) I10 hD10 hz10 r10 λs11 I11=>fin I11 nx
 exact codeAny_compStart_list loop (T.self X.A 0 _ _ _ st4 loop)
theorem vF{elt tg iter:Expr}{ifs:List Expr}{scope:Scope}{own:List (Str×Nat)}{pos:Pos}{wi:TI}{g:TG}{tt:TT}{te:TE}(hc:X.calm=true)(hN:X.N.Nodup)(hi:PI X tg iter wi)(ok:Ar X.N X.env.scope scope own)
  (hg:∀(s:Shared)(H:Hp)(C:Addr)(cl:List (Str×Addr))(fp:List Addr),PG (X.blk s H scope (compEnvC scope cl C X.env) fp) tg g)(ht:∀(s:Shared)(H:Hp)(C:Addr)(cl:List (Str×Addr))(fp:List Addr),PTs (X.blk s H scope (compEnvC scope cl C X.env) fp) ifs tt)
  (he:∀(s:Shared)(H:Hp)(C:Addr)(cl:List (Str×Addr))(fp:List Addr),PE (X.blk s H scope (compEnvC scope cl C X.env) fp) elt te)(hs:∀x,foldedSetIterable iter X.env x=pure x:=by intro _;rfl):
  PE X (.ListComp elt [⟨tg,iter,ifs,0⟩] scope pos) (tLc wi g tt te (own.map (·.2))):=by
 intro pins s σ H Q I h;rw[eval_ListComp];refine B4 hc hN I hi ok hg ht he hs h λD C s' m H' I' q hn f=>⟨m,hn,λh'' sb=>?_⟩;obtain⟨f0,f1,f2,f3,f4,f5⟩:=f;exact⟨.ref D,H',I'.turned (t':=s'.toks) (λb o hb e=>(sb.2 b hb).trans e) f0 f1 f3 f4 f5,rfl,q⟩
theorem D3{i:Nat}{y:Str}{py:Pos}{elt tg iter:Expr}{ifs:List Expr}{scope:Scope}{own:List (Str×Nat)}{pos spos:Pos}{wi:TI}{g:TG}{tt:TT}{te:TE}(hc:X.calm=true)(hN:X.N.Nodup)(hy:X.N[i]?=some y)(hyl:X.env.scope.names.lookup y=some .local)
  (hsw:swapsWith (.ListComp elt [⟨tg,iter,ifs,0⟩] scope pos) (some (.Name y py)) spos.line X.env=pure true)(hi:PI X tg iter wi)(ok:Ar X.N X.env.scope scope own)
  (hg:∀(s:Shared)(H:Hp)(C:Addr)(cl:List (Str×Addr))(fp:List Addr),PG (X.blk s H scope (compEnvC scope cl C X.env) fp) tg g)(ht:∀(s:Shared)(H:Hp)(C:Addr)(cl:List (Str×Addr))(fp:List Addr),PTs (X.blk s H scope (compEnvC scope cl C X.env) fp) ifs tt)
  (he:∀(s:Shared)(H:Hp)(C:Addr)(cl:List (Str×Addr))(fp:List Addr),PE (X.blk s H scope (compEnvC scope cl C X.env) fp) elt te)(hs:∀x,foldedSetIterable iter X.env x=pure x:=by intro _;rfl):
  PS X (.Assign [.Name y py] (.ListComp elt [⟨tg,iter,ifs,0⟩] scope pos) spos) (Fd (tLc wi g tt te (own.map (·.2))) (dX i)):=by
 intro pins s σ H D I h;rw[exec_Assign_Name_used _ _ _ _ hsw];refine wpAny_bind (wpAny_standAt (wpAny_bind ?_));show wpAny _ X.A (do let _←comprehension (.ListComp elt [⟨tg,iter,ifs,0⟩] scope pos) scope X.env (firstIterPos [⟨tg,iter,ifs,0⟩] pos) (newList []) false (eval iter X.env) (some (assign (.Name y py) X.env))) _ _ s
 have h:tLc wi g tt te (own.map (·.2)) σ H (λx H1=>dX i x σ H1 D.nx):=h
 refine wpAny_bind (thn (B4 (Qf:=λ_ s'=>SP X pins D .next s') hc hN I hi ok hg ht he hs h λL C s' m H' I' q hn f=>?_) λ_ s' hq=>wpAny_pure (wpAny_pure hq))
 show wpAny _ _ (assign (.Name y py) X.env (.ref L)) _ _ _;refine wpAny_assign_Name (xi (v:=V.ref L) I' hN hy (.inl hyl) rfl (λs2 I2⟨a,sb,ha⟩=>?_) (.inr hyl));obtain⟨f0,f1,f2,f3,f4,f5⟩:=f;have haC:C≠a:=by
  rcases ha with z|z
  ·rw[z];exact f1
  ·exactλe=>f4 y a z e.symm
 refine⟨m,hn.sameBut sb haC,λh3 sb3=>?_⟩;exact⟨_,H',I2.turned (t':=s2.toks) (λb o hb e=>(sb3.2 b hb).trans e) f0 f1 f3 f4 f5,q⟩
theorem Fe{elt:Expr}{gs:List Comprehension}{scope:Scope}{pos py:Pos}{y:Str}{l:Nat}{env:Env}(hk:env.scope.kind=.function)(hy:env.scope.names.lookup y=some .local)(hl:(py.line==pos.line)=true)
  (ha:(scope.names.any λ(n,k)=>n==y&&(k==.local||k==.cell))=false):swapsWith (.ListComp elt gs scope pos) (some (.Name y py)) l env=pure true:=by
 have ky:env.kindOf y=some .local:=hy;have hb:env.blockKind=.function:=by unfold Env.blockKind;rw[hk];rfl
 unfold swapsWith;simp only[hb,ky,ha,Expr.pos,hl];rfl
end
theorem Gi{K:PySem.W.Frag}{a:Addr}{xs:List V}{g:TG}{tt:TT}{te:TE}{vs:List Nat}{σ:St}{H1:Hp}{D:Addr}{Qd:Hp→Prop}(Pv:Nat→Hp→Prop)(h0:Pv 0 (upd H1 D (.lst [])))(hl:∀i H,i≤xs.length→Pv i H→SqL K H a xs)
  (hs:∀i x H,xs[i]?=some x→Pv i H→g x (wipe σ vs) H λσ2 H2=>wipe σ2 vs=wipe σ vs∧tt σ2 H2 λb H3=>
   if b=true then te σ2 H3 λy H4=>∃acc,H4 D=some (.lst acc)∧acc.length<sizeLine∧Pv (i+1) (upd H4 D (.lst (acc++[y])))else Pv (i+1) H3)(hd:∀H,Pv xs.length H→Qd H):
  ∃W:Nat→Nat→Hp→Prop,(∃m,W 0 m (upd H1 D (.lst [])))∧∀i m H,W i m H→
   ((Itl K a).stop i H∧Qd H)∨((Itl K a).go i H∧∃Nx:Hp→Prop,(∀H',Nx H'→∃m',m'<m∧W (i+1) m' H')∧∀x H',(Itl K a).yld i H x H'→g x (wipe σ vs) H' λσ2 H2=>wipe σ2 vs=wipe σ vs∧tt σ2 H2 λb H3=>
    if b=true then te σ2 H3 λy H4=>∃acc,H4 D=some (.lst acc)∧acc.length<sizeLine∧Nx (upd H4 D (.lst (acc++[y])))else Nx H3):=by
 refine⟨λi m H=>m=xs.length-i∧i≤xs.length∧Pv i H,⟨xs.length,by simp,Nat.zero_le _,h0⟩,?_⟩
 rintro i m H ⟨rfl,hi,p⟩;have q:=hl i H hi p
 by_cases hlt:i<xs.length
 ·refine .inr ⟨⟨xs,xs[i],q,by simp[hlt]⟩,Pv (i+1),λH' p'=>⟨xs.length-(i+1),by omega,rfl,hlt,p'⟩,λx H' y=>?_⟩
  obtain⟨e,y⟩:=y;subst e;exact hs i x _ (y xs q) p
 ·have e:i=xs.length:=by omega
  subst e;exact .inl ⟨⟨xs,q,Nat.le_refl _⟩,hd H p⟩
theorem ID{K:PySem.W.Frag}{a:Addr}{xs:List V}{g:TG}{tt:TT}{te:TE}{vs:List Nat}{σ:St}{H1:Hp}{D:Addr}{Qd:Hp→Prop}(Pv:Nat→Hp→Prop)(h0:Pv 0 (upd H1 D (.lst [])))(hl:∀i H,i≤xs.length→Pv i H→SqT K H a xs)
  (hs:∀i x H,xs[i]?=some x→Pv i H→g x (wipe σ vs) H λσ2 H2=>wipe σ2 vs=wipe σ vs∧tt σ2 H2 λb H3=>
   if b=true then te σ2 H3 λy H4=>∃acc,H4 D=some (.lst acc)∧acc.length<sizeLine∧Pv (i+1) (upd H4 D (.lst (acc++[y])))else Pv (i+1) H3)(hd:∀H,Pv xs.length H→Qd H):
  ∃W:Nat→Nat→Hp→Prop,(∃m,W 0 m (upd H1 D (.lst [])))∧∀i m H,W i m H→
   ((Itt K a).stop i H∧Qd H)∨((Itt K a).go i H∧∃Nx:Hp→Prop,(∀H',Nx H'→∃m',m'<m∧W (i+1) m' H')∧∀x H',(Itt K a).yld i H x H'→g x (wipe σ vs) H' λσ2 H2=>wipe σ2 vs=wipe σ vs∧tt σ2 H2 λb H3=>
    if b=true then te σ2 H3 λy H4=>∃acc,H4 D=some (.lst acc)∧acc.length<sizeLine∧Nx (upd H4 D (.lst (acc++[y])))else Nx H3):=by
 refine⟨λi m H=>m=xs.length-i∧i≤xs.length∧Pv i H,⟨xs.length,by simp,Nat.zero_le _,h0⟩,?_⟩
 rintro i m H ⟨rfl,hi,p⟩;have q:=hl i H hi p
 by_cases hlt:i<xs.length
 ·refine .inr ⟨⟨xs,xs[i],q,by simp[hlt]⟩,Pv (i+1),λH' p'=>⟨xs.length-(i+1),by omega,rfl,hlt,p'⟩,λx H' y=>?_⟩
  obtain⟨e,y⟩:=y;subst e;exact hs i x _ (y xs q) p
 ·have e:i=xs.length:=by omega
  subst e;exact .inl ⟨⟨xs,q,Nat.le_refl _⟩,hd H p⟩
def Km(N:List Str)(sc scope:Scope)(own:List (Str×Nat)):Bool:=
 (match scope.kind with|.function=>true|_=>false)&&(scope.names.all λy=>decide (scope.names.lookup y.1=some y.2))&&(own.all λp=>decide (N[p.2]?=some p.1))&&
  (scope.names.all λy=>match y.2 with
   |.free=>(match sc.names.lookup y.1 with|some .cell=>true|some .free=>true|_=>false)
   |.local=>decide (y.1∈own.map (·.1))||decide (y.1∉N)
   |.cell=>decide (y.1∈own.map (·.1))||decide (y.1∉N)
   |_=>true)
theorem iO{N:List Str}{sc scope:Scope}{own:List (Str×Nat)}(h:Km N sc scope own=true):Ar N sc scope own:=by
 unfold Km at h;simp only[Bool.and_eq_true,List.all_eq_true,decide_eq_true_eq]at h;obtain⟨⟨⟨h1,h2⟩,h3⟩,h4⟩:=h;refine⟨?_,h2,h3,λy hy e=>?_,λy hy e=>?_⟩
 ·split at h1
  ·assumption
  ·cases h1
 ·have q:=h4 y hy;simp only[e]at q
  split at q<;>first|exact .inl (by assumption)|exact .inr (by assumption)|cases q
 ·have q:=h4 y hy;rcases e with e|e<;>(simp only[e,Bool.or_eq_true,decide_eq_true_eq]at q;exact q)
section
variable {κ:Type}[DecidableEq κ]
def dY(kvs:List (κ×V))(k:κ):Option V:=(kvs.find? λkv=>decide (kv.1=k)).map (·.2)
def putK(kvs:List (κ×V))(k:κ)(v:V):List (κ×V):=
 if(kvs.any λkv=>decide (kv.1=k))=true then kvs.map (λkv=>if kv.1=k then(kv.1,v)else kv)else kvs++[(k,v)]
theorem dB{p:κ×V}{r:List (κ×V)}{k:κ}(e:p.1=k):dY (p::r) k=some p.2:=by simp[dY,List.find?_cons,e]
theorem dC{p:κ×V}{r:List (κ×V)}{k:κ}(e:¬p.1=k):dY (p::r) k=dY r k:=by simp[dY,List.find?_cons,e]
theorem nI(k:κ):∀kvs:List (κ×V),(kvs.any λkv=>decide (kv.1=k))=(dY kvs k).isSome
 |[]=>rfl
 |p::r=>by
  rw[List.any_cons]
  by_cases e:p.1=k
  ·simp only[dB e,decide_eq_true e,Bool.true_or,Option.isSome_some]
  ·rw[dC e,decide_eq_false e,Bool.false_or];exact nI k r
theorem zb(k j:κ)(y:V):∀kvs:List (κ×V),dY (kvs.map λkv=>if kv.1=k then(kv.1,y)else kv) j=(dY kvs j).map λx=>if j=k then y else x
 |[]=>rfl
 |p::r=>by
  have ih:=zb k j y r;rw[List.map_cons]
  by_cases h:p.1=k
  ·rw[if_pos h]
   by_cases e:p.1=j
   ·rw[dB (p:=(p.1,y)) e,dB e,Option.map_some,if_pos (e.symm.trans h)]
   ·rw[dC (p:=(p.1,y)) e,dC e,ih]
  ·rw[if_neg h]
   by_cases e:p.1=j
   ·rw[dB (p:=p) e,dB e,Option.map_some,if_neg (λz=>h (e.trans z))]
   ·rw[dC (p:=p) e,dC e,ih]
theorem xb(k j:κ)(y:V):∀kvs:List (κ×V),dY kvs k=none→dY (kvs++[(k,y)]) j=if j=k then some y else dY kvs j
 |[],_=>by
  by_cases e:k=j
  ·rw[if_pos e.symm];exact dB (p:=(k,y)) e
  ·rw[if_neg (λz=>e z.symm)];exact dC (p:=(k,y)) e
 |p::r,hn=>by
  rw[List.cons_append];have hk:¬p.1=k:=λz=>by rw[dB z]at hn;cases hn
  rw[dC hk]at hn;have ih:=xb k j y r hn
  by_cases e:p.1=j
  ·rw[dB e,dB e,if_neg (λz=>hk (e.trans z))]
  ·rw[dC e,dC e,ih]
theorem za(kvs:List (κ×V))(k j:κ)(y:V):dY (putK kvs k y) j=if j=k then some y else dY kvs j:=by
 unfold putK
 by_cases a:(kvs.any λkv=>decide (kv.1=k))=true
 ·rw[if_pos a,zb];rw[nI]at a
  by_cases e:j=k
  ·obtain⟨x,hx⟩:=Option.isSome_iff_exists.mp a;rw[if_pos e,e,hx,Option.map_some,if_pos rfl]
  ·rw[if_neg e];cases dY kvs j with
   |none=>rfl
   |some x=>rw[Option.map_some,if_neg e]
 ·rw[if_neg a];refine xb k j y kvs ?_;rw[nI]at a;cases q:dY kvs k with
  |none=>rfl
  |some x=>rw[q]at a;exact(a rfl).elim
theorem iK(kvs:List (κ×V))(k:κ)(v:V):(putK kvs k v).length≤kvs.length+1:=by
 unfold putK
 split
 ·rw[List.length_map];omega
 ·rw[List.length_append,List.length_cons,List.length_nil];omega
theorem lJ.tQ{o:Option V}{u:Option Value}(r:lJ o u):o.isSome=u.isSome:=by
 cases o with
 |none=>cases u with
  |none=>rfl
  |some _=>exact(show False from r).elim
 |some _=>cases u with
  |none=>exact(show False from r).elim
  |some _=>rfl
theorem lJ.getD{o:Option V}{u:Option Value}{d:V}{d':Value}(r:lJ o u)(rd:RelV d d'):RelV (o.getD d) (u.getD d'):=by
 cases o with
 |none=>cases u with
  |none=>exact rd
  |some _=>exact(show False from r).elim
 |some _=>cases u with
  |none=>exact(show False from r).elim
  |some _=>exact r
theorem KV.val{kvs:List (κ×V)}{vs:List (κ×Value)}(r:KV kvs vs)(k:κ):lJ (dY kvs k) (valueAt vs k):=by
 unfold KV at r
 induction r with
 |nil=>exact True.intro
 |@cons p q ps qs h t ih=>
  obtain⟨h1,h2⟩:=h
  by_cases e:p.1=k
  ·have e':q.1=k:=h1.symm.trans e;have b:valueAt (q::qs) k=some q.2:=by simp[valueAt,List.find?_cons,e']
   rw[dB e,b];exact h2
  ·have e':¬q.1=k:=λz=>e (h1.trans z);have b:valueAt (q::qs) k=valueAt qs k:=by simp[valueAt,List.find?_cons,e']
   rw[dC e,b];exact ih
theorem KV.any{kvs:List (κ×V)}{vs:List (κ×Value)}(r:KV kvs vs)(k:κ):(kvs.any λkv=>decide (kv.1=k))=vs.any λkv=>decide (kv.1=k):=by
 unfold KV at r
 induction r with
 |nil=>rfl
 |cons h t ih=>rw[List.any_cons,List.any_cons,ih,h.1]
theorem KV.HV{kvs:List (κ×V)}{vs:List (κ×Value)}(r:KV kvs vs)(k:κ){y:V}{u:Value}(ry:RelV y u):
  KV (kvs.map λkv=>if kv.1=k then(kv.1,y)else kv) (vs.map λkv=>if kv.1=k then(kv.1,u)else kv):=by
 unfold KV at r⊢
 induction r with
 |nil=>exact .nil
 |@cons p q ps qs h t ih=>
  rw[List.map_cons,List.map_cons];refine .cons ?_ ih;obtain⟨h1,h2⟩:=h
  by_cases e:p.1=k
  ·rw[if_pos e,if_pos (h1.symm.trans e)];exact⟨h1,ry⟩
  ·rw[if_neg e,if_neg (λz=>e (h1.trans z))];exact⟨h1,h2⟩
theorem KV.put{kvs:List (κ×V)}{vs:List (κ×Value)}(r:KV kvs vs)(k:κ){y:V}{u:Value}(ry:RelV y u):KV (putK kvs k y) (stored vs k u):=by
 unfold putK stored;rw[r.any k]
 by_cases e:(vs.any λkv=>decide (kv.1=k))=true
 ·rw[if_pos e,if_pos e];exact r.HV k ry
 ·rw[if_neg e,if_neg e];exact Paired.snoc r ⟨rfl,ry⟩
theorem KV.length{kvs:List (κ×V)}{vs:List (κ×Value)}(r:KV kvs vs):kvs.length=vs.length:=Paired.length r
end
theorem zW{P:Program}{w:World}{k:Key}{u:Value}(r:RelV (kV k) u):(cM P w).is k u=true:=by
 cases k with
 |inl i=>obtain⟨t,e⟩:=(show∃t,u=Value.int i t from r);subst e;exact zM P w i t
 |inr x=>obtain⟨t,e⟩:=(show∃t,u=Value.str x t from r);subst e;exact zL P w x t
theorem xF{P:Program}{w:World}:∀{ks:List Key}{us:List Value},Vals (ks.map kV) us→ItemsAre (cM P w) ks us
 |[],_,r=>by rw[List.map_nil]at r;cases r;exact .nil
 |k::ks,_,r=>by
  rw[List.map_cons]at r;cases r with
  |cons h t=>exact .cons (zW h) (xF t)
abbrev KT(H:Hp):List (List Key×V)→List (List Key×Addr×Value)→Prop:=Paired λp q=>p.1=q.1∧H q.2.1=some (.tup (p.1.map kV))∧RelV p.2 q.2.2
theorem KT.val{H:Hp}{kvs:List (List Key×V)}{xs:List (List Key×Addr×Value)}(r:KT H kvs xs)(k:List Key):lJ (dY kvs k) ((atKey xs k).map (·.2)):=by
 induction r with
 |nil=>exact True.intro
 |@cons p q ps qs h t ih=>
  obtain⟨h1,_,h2⟩:=h
  by_cases e:p.1=k
  ·have e':q.1=k:=h1.symm.trans e;have b:atKey (q::qs) k=some q.2:=by simp[atKey,List.find?_cons,e']
   rw[dB e,b];exact h2
  ·have e':¬q.1=k:=λz=>e (h1.trans z);have b:atKey (q::qs) k=atKey qs k:=by simp[atKey,List.find?_cons,e']
   rw[dC e,b];exact ih
theorem KT.HV{H:Hp}{kvs:List (List Key×V)}{xs:List (List Key×Addr×Value)}(r:KT H kvs xs)(k:List Key){y:V}{u:Value}(ry:RelV y u):
  KT H (kvs.map λkv=>if kv.1=k then(kv.1,y)else kv) (xs.map (putAt k u)):=by
 induction r with
 |nil=>exact .nil
 |@cons p q ps qs h t ih=>
  rw[List.map_cons,List.map_cons];refine .cons ?_ ih;obtain⟨h1,h2,h3⟩:=h;unfold putAt
  by_cases e:p.1=k
  ·rw[if_pos e,if_pos (h1.symm.trans e)];exact⟨h1,h2,ry⟩
  ·rw[if_neg e,if_neg (λz=>e (h1.trans z))];exact⟨h1,h2,h3⟩
theorem KT.put{H:Hp}{kvs:List (List Key×V)}{xs:List (List Key×Addr×Value)}(r:KT H kvs xs)(k:List Key){b:Addr}{y:V}{u:Value}(hb:H b=some (.tup (k.map kV)))(ry:RelV y u):
  KT H (putK kvs k y) (storedH xs k b u):=by
 have e:(kvs.any λkv=>decide (kv.1=k))=(atKey xs k).isSome:=by
  rw[nI,(r.val k).tQ,Option.isSome_map]
 unfold putK storedH;rw[e]
 by_cases q:(atKey xs k).isSome=true
 ·rw[if_pos q,if_pos q];exact r.HV k ry
 ·rw[if_neg q,if_neg q];exact Paired.snoc r ⟨rfl,hb,ry⟩
theorem KT.keeps{H H':Hp}{kvs:List (List Key×V)}{xs:List (List Key×Addr×Value)}(r:KT H kvs xs)(ht:∀b ys,H b=some (.tup ys)→H' b=some (.tup ys)):KT H' kvs xs:=
 Paired.IC r λ_ _ z=>⟨z.1,ht _ _ z.2.1,z.2.2⟩
section
variable {P:Program}{w:World}{H:Hp}{h:Heap}{a:Addr}
theorem GS{u:HO}(ok:HOk P w H h)(e:Rd H a u):bM P w H h a u:=e.ok ok
theorem xT{kvs:List (Key×V)}(ok:HOk P w H h)(e:Rd H a (.dK kvs)):kvs.length≤sizeLine∧(a==sysModules)=false∧∃vs,KV kvs vs∧h.DictOf (cM P w) a vs:=
 show bM P w H h a (.dK kvs)from GS ok e
theorem Kl{kvs:List (Key×V)}(ok:HOk P w H h)(e:H a=some (.dK kvs)):kvs.length≤sizeLine∧(a==sysModules)=false∧∃vs,KV kvs vs∧h.DictOf (cM P w) a vs:=xT ok (.inl e)
theorem tP{ks:List Key}(ok:HOk P w H h)(e:H a=some (.tup (ks.map kV))):(tupleKind (cM P w)).is h ks a:=by
 obtain⟨_,its,r,o,h1,h2,n,h3⟩:=(show bM P w H h a (.tup (ks.map kV))from ok a _ e);exact⟨o,its.toArray,n,h1,h2,h3,by simpa using xF r⟩
theorem xS{kvs:List (List Key×V)}(ok:HOk P w H h)(e:Rd H a (.dT kvs)):kvs.length≤sizeLine∧(a==sysModules)=false∧
  ∃xs,KT H kvs xs∧h.DictOfH (tupleKind (cM P w)) a xs:=by
 obtain⟨z,y,xs,r,o,es,ep,h1,h2,h3,h4,h5⟩:=(show bM P w H h a (.dT kvs)from GS ok e);refine⟨z,y,xs,r,o,es,ep,h1,h2,h3,h4,λx hx=>?_,h5⟩;have all:∀{l:List (List Key×V)}{m:List (List Key×Addr×Value)},KT H l m→∀x∈m,(tupleKind (cM P w)).is h x.1 x.2.1:=by
  intro l m q
  induction q with
  |nil=>intro x hx;exact nomatch hx
  |@cons p q ps qs hq t ih=>
   intro x hx;rcases List.mem_cons.mp hx with e|hx
   ·subst e;exact tP ok (by rw[←hq.1];exact hq.2.1)
   ·exact ih x hx
 exact all r x hx
theorem G7{kvs:List (List Key×V)}(ok:HOk P w H h)(e:H a=some (.dT kvs)):kvs.length≤sizeLine∧(a==sysModules)=false∧
  ∃xs,KT H kvs xs∧h.DictOfH (tupleKind (cM P w)) a xs:=xS ok (.inl e)
end
def jV(H:Hp)(a:Addr)(y:V)(r:Option V):Prop:=
 (∃kvs k,Rd H a (.dK kvs)∧y=kV k∧r=dY kvs k)∨∃kvs k b,Rd H a (.dT kvs)∧y=.ref b∧H b=some (.tup (k.map kV))∧r=dY kvs k
def y8(H:Hp)(a:Addr)(y v:V)(H':Hp):Prop:=
 (∃kvs k,H a=some (.dK kvs)∧y=kV k∧kvs.length<sizeLine∧H'=upd H a (.dK (putK kvs k v)))∨
 ∃kvs k b,H a=some (.dT kvs)∧y=.ref b∧H b=some (.tup (k.map kV))∧kvs.length<sizeLine∧H'=upd H a (.dT (putK kvs k v))
theorem jV.k{H:Hp}{a:Addr}{kvs:List (Key×V)}{k:Key}(e:H a=some (.dK kvs)):jV H a (kV k) (dY kvs k):=.inl ⟨kvs,k,.inl e,rfl,rfl⟩
theorem jV.t{H:Hp}{a b:Addr}{kvs:List (List Key×V)}{k:List Key}(e:H a=some (.dT kvs))(eb:H b=some (.tup (k.map kV))):jV H a (.ref b) (dY kvs k):=.inr ⟨kvs,k,b,.inl e,rfl,eb,rfl⟩
theorem y8.k{H:Hp}{a:Addr}{kvs:List (Key×V)}{k:Key}{v:V}(e:H a=some (.dK kvs))(hl:kvs.length<sizeLine):y8 H a (kV k) v (upd H a (.dK (putK kvs k v))):=.inl ⟨kvs,k,e,rfl,hl,rfl⟩
theorem y8.t{H:Hp}{a b:Addr}{kvs:List (List Key×V)}{k:List Key}{v:V}(e:H a=some (.dT kvs))(eb:H b=some (.tup (k.map kV)))(hl:kvs.length<sizeLine):
  y8 H a (.ref b) v (upd H a (.dT (putK kvs k v))):=.inr ⟨kvs,k,b,e,rfl,eb,hl,rfl⟩
section
variable {X:Cx}{pins:List (Addr×Obj)}{σ:St}{H:Hp}{s:Shared}{a:Addr}{y v:V}{u r:Value}{o:Option V}{A:Around}{E:Value→Shared→Prop}
theorem Inv.big(I:Inv X pins σ H s):sysModules<s.heap.objs.size:=by
 have h:mainGlobals<s.heap.objs.size:=(I.mod.glob.keeps I.bk).lt;exact Nat.lt_trans (by decide) h
theorem Dh{Q:Value→Shared→Prop}(hu:A.units+1<cLine)(I:Inv X pins σ H s)(g:jV H a y (some v))(ry:RelV y u)(h:∀w' s',Inv X pins σ H s'→RelV v w'→Q w' s'):
  wpAny (model X.prog X.w) A (getItem (.ref a) u) Q E s:=by
 rcases g with⟨kvs,k,e,ey,l⟩|⟨kvs,k,b,e,ey,eb,l⟩
 ·subst ey;obtain⟨z,hd,vs,rel,dd⟩:=xT I.hok e;obtain⟨w',hw,rw'⟩:=lJ.some_of (v:=v) (o:=valueAt vs k) (by rw[l];exact rel.val k)
  exact wpAny_getItem_of (zW ry) dd.mapOf hw (h w' _ (I.tok _) rw')
 ·subst ey;cases(show u=Value.ref b from ry);obtain⟨z,hd,xs,rel,dd⟩:=xS I.hok e;obtain⟨w',hw,rw'⟩:=lJ.some_of (v:=v) (o:=(atKey xs k).map (·.2)) (by rw[l];exact rel.val k)
  obtain⟨p,hp,hp2⟩:=Option.map_eq_some_iff.mp hw;refine wpAny_getItem_heap (tupleKind_room_in1 hu) (tP I.hok eb) dd hp ?_;rw[hp2];exact h w' _ (I.tok _) rw'
theorem Ld{Q:Value→Shared→Prop}(hu:A.units+1<cLine)(I:Inv X pins σ H s)(g:jV H a y o)(ry:RelV y u)(h:∀s',Inv X pins σ H s'→Q (.bool o.isSome) s'):
  wpAny (model X.prog X.w) A (compareOp .In u (.ref a)) Q E s:=by
 rcases g with⟨kvs,k,e,ey,l⟩|⟨kvs,k,b,e,ey,eb,l⟩
 ·subst ey;obtain⟨z,hd,vs,rel,dd⟩:=xT I.hok e;refine wpAny_in_of (zW ry) hd dd.mapOf ?_;rw[←(rel.val k).tQ,←l];exact h _ (I.tok _)
 ·subst ey;cases(show u=Value.ref b from ry);obtain⟨z,hd,xs,rel,dd⟩:=xS I.hok e;refine wpAny_in_heap (tupleKind_room_in1 hu) (tP I.hok eb) hd dd ?_;have q:=(rel.val k).tQ;rw[Option.isSome_map]at q;rw[←q,←l];exact h _ (I.tok _)
theorem yS{h':Heap}{t':Nat}{ob:HO}(I:Inv X pins σ H s)(mu:Mut (H a))(hs:Heap.SameBut a s.heap h')(he:∃q,h'.get? a=some q)(new:bM X.prog X.w (upd H a ob) h' a ob):
  Inv X pins σ (upd H a ob) {s with heap:=h',toks:=t'}:=
 I.write (x:=a) (e:=a) mu (.inl rfl) (λb q hb z=>(hs.2 b hb).trans z) he new
theorem IZ{P:Program}{w:World}{H':Hp}{h':Heap}{kvs:List (Key×V)}{vs:List (Key×Value)}(z:kvs.length≤sizeLine)(hd:(a==sysModules)=false)(rel:KV kvs vs)(dd:h'.DictOf (cM P w) a vs):
  bM P w H' h' a (.dK kvs):=⟨z,hd,vs,rel,dd⟩
theorem Dg{H':Hp}{Q:Unit→Shared→Prop}(hu:A.units+1<cLine)(I:Inv X pins σ H s)(g:y8 H a y v H')(ry:RelV y u)(rv:RelV v r)(h:∀s',Inv X pins σ H' s'→Q () s'):
  wpAny (model X.prog X.w) A (setItem (.ref a) u r) Q E s:=by
 rcases g with⟨kvs,k,e,ey,l,eH⟩|⟨kvs,k,b,e,ey,eb,l,eH⟩
 ·subst ey eH;obtain⟨z,hd,vs,rel,dd⟩:=Kl I.hok e;have hz:vs.length≤sizeLine:=by rw[←rel.length];exact z
  have hl:(putK kvs k v).length≤sizeLine:=by have:=iK kvs k v;omega
  refine wpAny_setItem_pairs (hsz:=hz) (zW ry) dd λh' dd' hs=>h _ ?_;have he:∃q,h'.get? a=some q:=let⟨q,_,_,hq,_⟩:=dd';⟨q,hq⟩;exact yS I (by rw[e];exact True.intro) hs he (IZ hl hd (rel.put k rv) dd')
 ·subst ey eH;cases(show u=Value.ref b from ry);obtain⟨z,hd,xs,rel,dd⟩:=G7 I.hok e;have hz:xs.length≤sizeLine:=by rw[←Paired.length rel];exact z
  have hl:(putK kvs k v).length≤sizeLine:=by have:=iK kvs k v;omega
  refine wpAny_setItem_heap (hsz:=hz) (tupleKind_room_in1 hu) (tP I.hok eb) dd λh' dd' hs=>h _ ?_;obtain⟨q,es,ep,hq,h2,h3,h4,_,h5⟩:=dd';refine yS I (by rw[e];exact True.intro) hs ⟨q,hq⟩ ⟨hl,hd,_,(rel.put k eb rv).keeps λc ys ec=>?_,q,es,ep,hq,h2,h3,h4,h5⟩
  rw[ae (aF ec e (λz=>nomatch z))];exact ec
end
def Kt(i:Expr):Prop:=∀ov iv,subscripted i false ov iv=operate [ov,iv] (getItem ov iv)
theorem Fg{prog:Program}{w:World}{A:Around}{E:Value→Shared→Prop}{s:Shared}{env:Env}{value slice:Expr}{pos:Pos}{T id:String}{Q:Value→Shared→Prop}
  (hl:typeLookup (.type T) "__getitem__"=pure (some (.builtin id)))(hs:Kt slice)
  (h:wpAny (model prog w) A (eval value env) (λo s₁=>wpAny (model prog w) A (eval slice env) (λi s₂=>s₂.TypeIs o T∧wpAny (model prog w) A (getItem o i) Q E s₂) E s₁) E s):
  wpAny (model prog w) A (eval (.Subscript value slice pos) env) Q E s:=by
 refine Subscript_ (wpAny_mono h (λo s₁ h₁=>wpAny_mono h₁ (λi s₂ h₂=>?_) λ_ _ x=>x) λ_ _ x=>x);obtain⟨hT,h₂⟩:=h₂;unfold subscriptTail;refine wpAny_bind ?_;rw[getitemInPython_of_ne hT.not_modules];refine wpAny_bind (wpAny_specialOf hT hl ?_);have fin:wpAny (model prog w) A (subscripted slice false o i) (λr s₃=>wpAny (model prog w) A (letTemporaryGo value o r>>=λ_=>pure r) Q E s₃) E s₂:=by
  rw[hs o i];exact wpAny_operating (wpAny_mono h₂ (λr s₃ h₃=>wpAny_bind (wpAny_letTemporaryGo (wpAny_pure h₃))) λ_ _ x=>x)
 first
  |exact wpAny_pure (wpAny_bind fin)
  |exact wpAny_bind (wpAny_pure (wpAny_bind fin))
  |exact wpAny_bind fin
theorem Ad{X:Cx}{pins:List (Addr×Obj)}{σ:St}{H:Hp}{s:Shared}{a:Addr}{y:V}{o:Option V}(I:Inv X pins σ H s)(g:jV H a y o):s.TypeIs (.ref a) "dict":=by
 rcases g with⟨kvs,k,e,_,_⟩|⟨kvs,k,b,e,_,_,_⟩
 ·obtain⟨_,_,vs,_,dd⟩:=xT I.hok e;exact dd.typeIs
 ·obtain⟨_,_,xs,_,dd⟩:=xS I.hok e;exact dd.typeIs
def GO(td ty:TE):TE:=λσ H Q=>td σ H λx H1=>ty σ H1 λy H2=>∃a v,x=.ref a∧jV H2 a y (some v)∧Q v H2
def Jy(ty td:TE):TE:=λσ H Q=>ty σ H λy H1=>td σ H1 λx H2=>∃a o,x=.ref a∧jV H2 a y o∧Q (.bl o.isSome) H2
def GQ(td ty tv:TE):TS:=λD σ H=>tv σ H λv H1=>td σ H1 λx H2=>ty σ H2 λy H3=>∃a H4,x=.ref a∧y8 H3 a y v H4∧D.nx σ H4
section
variable {X:Cx}{o i e value:Expr}{pos pos' tpos:Pos}{td ty tv:TE}
theorem u0(hu:X.A.units+1<cLine)(ho:PE X o td)(hi:PE X i ty)(hs:Kt i):PE X (.Subscript o i pos) (GO td ty):=by
 intro pins s σ H Q I h;refine Fg PySem.F.slot_dict_getitem.lookup hs (thn (ho pins s σ H _ I h) λu s1⟨x,H1,I1,rx,q1⟩=>thn (hi pins s1 σ H1 _ I1 q1) λiv s2⟨y,H2,I2,ry,a,v,ex,g,q2⟩=>?_);subst ex;obtain rfl:u=Value.ref a:=rx;exact⟨Ad I2 g,Dh hu I2 g ry λw' s3 I3 rw'=>⟨v,H2,I3,rw',q2⟩⟩
theorem qO(hu:X.A.units+1<cLine)(hi:PE X i ty)(ho:PE X o td):PC X .In i o (Jy ty td):=by
 intro pins s σ H Q I h;refine thn (hi pins s σ H _ I h) λiv s1⟨y,H1,I1,ry,q1⟩=>thn (ho pins s1 σ H1 _ I1 q1) λu s2⟨x,H2,I2,rx,a,ov,ex,g,q2⟩=>?_;subst ex;obtain rfl:u=Value.ref a:=rx;exact Ld hu I2 g ry λs3 I3=>⟨.bl ov.isSome,H2,I3,rfl,q2⟩
theorem BQ(hu:X.A.units+1<cLine)(ho:PE X o td)(hi:PE X i ty)(hv:PE X value tv)(hs:swapsWith value (some (.Subscript o i pos')) pos.line X.env=pure false):
  PS X (.Assign [.Subscript o i pos'] value pos) (GQ td ty tv):=by
 intro pins s σ H D I h;refine wpAny_Assign_Subscript (thn (hv pins s σ H _ I h) λr s1⟨v,H1,I1,rv,q1⟩=>thn (ho pins s1 σ H1 _ I1 q1) λu s2⟨x,H2,I2,rx,q2⟩=>thn (hi pins s2 σ H2 _ I2 q2) λiv s3⟨y,H3,I3,ry,a,H4,ex,g,q3⟩=>?_) hs;subst ex;obtain rfl:u=Value.ref a:=rx;exact Dg hu I3 g ry rv λs4 I4=>⟨σ,H4,I4,q3⟩
end
theorem EU{P:Program}{w:World}{H:Hp}(h:Heap)(hb:sysModules<h.objs.size):bM P w H (h.push {cls:=.type "dict",data:=.dict #[]}) h.objs.size (.dK []):=
 ⟨Nat.zero_le _,beq_eq_false_iff_ne.mpr (Ne.symm (Nat.ne_of_lt hb)),[],.nil,Heap.DictOf.new h⟩
theorem ET{P:Program}{w:World}{H:Hp}(h:Heap)(hb:sysModules<h.objs.size):bM P w H (h.push {cls:=.type "dict",data:=.dict #[]}) h.objs.size (.dT []):=
 ⟨Nat.zero_le _,beq_eq_false_iff_ne.mpr (Ne.symm (Nat.ne_of_lt hb)),[],.nil,_,#[],0,Heap.get?_push_size _ rfl,⟨rfl,rfl,rfl⟩,rfl,rfl,List.nodup_nil⟩
def Hl:TE:=λ_ H Q=>∀p,H p=none→Q (.ref p) (upd H p (.dK []))
def Hk:TE:=λ_ H Q=>∀p,H p=none→Q (.ref p) (upd H p (.dT []))
section
variable {X:Cx}{pos:Pos}
theorem Ec:PE X (.Dict [] [] pos) Hl:=λpins s σ H Q I h=>
 wpAny_Dict_empty ⟨.ref s.heap.objs.size,_,I.laid (a:=s.heap.objs.size) (o:=.dK []) (t':=s.toks) (λ_ _ q=>Heap.get?_push_of_some _ q) (Nat.le_refl _) (EU s.heap I.big),rfl,h _ (I.hok.fresh (Nat.le_refl _))⟩
theorem zz:PE X (.Dict [] [] pos) Hk:=λpins s σ H Q I h=>
 wpAny_Dict_empty ⟨.ref s.heap.objs.size,_,I.laid (a:=s.heap.objs.size) (o:=.dT []) (t':=s.toks) (λ_ _ q=>Heap.get?_push_of_some _ q) (Nat.le_refl _) (ET s.heap I.big),rfl,h _ (I.hok.fresh (Nat.le_refl _))⟩
end
structure M2(X:Cx)(o:Expr)(m:Str)(apos:Pos)(e f:Expr)(cpos:Pos):Prop where
 base:attributeBase o m X.env (eval o X.env)=eval o X.env
 few:((backTo cpos (starEach [e,f] X.env)).all (λx=>!x.1)&&(backToKw cpos (keywordEach [] X.env)).all (λx=>x.1.isSome)
  &&decide (([e,f]:List Expr).length+([]:List Keyword).length+(if([]:List Keyword).isEmpty then 0 else 1)<30))=true
 line:(apos.endLine==cpos.line)=true
 trees:backTo cpos (starEach [e,f] X.env)=[(false,eval e X.env),(false,eval f X.env)]
def IsD(H:Hp)(a:Addr):Prop:=(∃kvs,Rd H a (.dK kvs))∨∃kvs,Rd H a (.dT kvs)
theorem EC{X:Cx}{pins:List (Addr×Obj)}{σ:St}{H:Hp}{s:Shared}{a:Addr}(I:Inv X pins σ H s)(d:IsD H a):
  s.TypeIs (.ref a) "dict"∧(∀b,Value.ref a=.ref b→∃ob,s.heap.get? b=some ob∧ob.dict=none)∧(a==sysModules)=false:=by
 rcases d with⟨kvs,e⟩|⟨kvs,e⟩
 ·obtain⟨_,hd,vs,_,dd⟩:=xT I.hok e;refine⟨dd.typeIs,λb q=>?_,hd⟩;cases q;obtain⟨ob,_,_,h1,h2,_⟩:=dd;exact⟨ob,h1,h2.2.1⟩
 ·obtain⟨_,hd,xs,_,dd⟩:=xS I.hok e;refine⟨dd.typeIs,λb q=>?_,hd⟩;cases q;obtain⟨ob,_,_,h1,h2,_⟩:=dd;exact⟨ob,h1,h2.2.1⟩
section
variable {X:Cx}{pins:List (Addr×Obj)}{σ:St}{H:Hp}{s:Shared}{a:Addr}{y d:V}{u r:Value}{o:Option V}{A:Around}{E:Value→Shared→Prop}
theorem Ja{Q:Value→Shared→Prop}(hu:A.units+1<cLine)(I:Inv X pins σ H s)(g:jV H a y o)(ry:RelV y u)(rd:RelV d r)(h:∀w' s',Inv X pins σ H s'→RelV (o.getD d) w'→Q w' s'):
  wpAny (model X.prog X.w) A (call (.builtin "dict.get") [.ref a,u,r]) Q E s:=by
 rcases g with⟨kvs,k,e,ey,l⟩|⟨kvs,k,b,e,ey,eb,l⟩
 ·subst ey;obtain⟨z,hd,vs,rel,dd⟩:=xT I.hok e;refine call_meetsIn PySem.F.slot_dict_get dd.typeIs PySem.F.entry_dict_get (PySem.F.args_dict_get_3 _ _ _) (meets_dict_get_default (cM X.prog X.w) a (zW ry) hd r) ⟨_,dd.mapOf,h _ _ (I.tok _) ?_⟩;rw[l];exact(rel.val k).getD rd
 ·subst ey;cases(show u=Value.ref b from ry);obtain⟨z,hd,xs,rel,dd⟩:=xS I.hok e;refine call_meetsIn PySem.F.slot_dict_get dd.typeIs PySem.F.entry_dict_get (PySem.F.args_dict_get_3 _ _ _) (meetsH_dict_get_default (tupleKind (cM X.prog X.w)) a b hd r) ⟨tupleKind_room_in1 hu,k,xs,tP I.hok eb,dd,h _ _ (I.tok _) ?_⟩;rw[l];exact(rel.val k).getD rd
end
def Hm(td ty tx:TE):TE:=λσ H Q=>td σ H λx H1=>∃a,x=.ref a∧IsD H1 a∧ty σ H1 λy H2=>tx σ H2 λz H3=>∃o,jV H3 a y o∧Q (o.getD z) H3
section
variable {X:Cx}{o e f:Expr}{apos cpos:Pos}{td ty tx:TE}
theorem Ed(hu:X.A.units+1<cLine)(ho:PE X o td)(he:PE X e ty)(hf:PE X f tx)(m:M2 X o "get" apos e f cpos):PE X (.Call (.Attribute o "get" apos) [e,f] [] cpos) (Hm td ty tx):=by
 intro pins s σ H Q I h;refine wpAny_Call_method m.base m.few m.line PySem.F.plainAttrs_dict PySem.F.slot_dict_get PySem.F.type_dict_get (thn (ho pins s σ H _ I h) λu s1⟨x,H1,I1,rx,a,ex,d,q1⟩=>?_);subst ex;obtain rfl:u=Value.ref a:=rx;obtain⟨t1,t2,_⟩:=EC I1 d;refine⟨t1,t2,?_⟩;rw[m.trees];refine Calls.callWith_builtin rfl (Calls.evalArgs_plain (Calls.spliced_cons (thn (he pins s1 σ H1 _ I1 q1) λiv s2⟨y,H2,I2,ry,q2⟩=>
  Calls.spliced_cons (thn (hf pins s2 σ H2 _ I2 q2) λfv s3⟨z,H3,I3,rz,ov,g,q3⟩=>Calls.spliced_nil ?_))))
 exact Ja hu I3 g ry rz λw' s4 I4 rw'=>⟨_,H3,I4,rw',q3⟩
end
theorem wD:bootBuiltins "reversed"=some (.type "reversed"):=by decide+kernel
section
variable {X:Cx}{pins:List (Addr×Obj)}{σ:St}{H:Hp}{s:Shared}{h':Heap}
theorem Inv.lock{d:Addr}{u:HO}(I:Inv X pins σ H s)(h:H d=some u)(mu:Mut (some u)):∃od,Inv X pins σ (upd H d (.frz od u)) s:=by
 have x:=I.hok d u h;have ex:∃od,s.heap.get? d=some od:=by
  cases u with
  |lst xs=>obtain⟨_,_,_,_,e⟩:=x;exact⟨_,e⟩
  |dK kvs=>obtain⟨_,_,_,_,o,_,_,e,_⟩:=x;exact⟨o,e⟩
  |dT kvs=>obtain⟨_,_,_,_,o,_,_,e,_⟩:=x;exact⟨o,e⟩
  |set S n=>obtain⟨o,_,_,_,e,_⟩:=x;exact⟨o,e⟩
  |ins C dx fs=>obtain⟨_,_,_,e,_⟩:=x;exact⟨_,e⟩
  |ext φ=>obtain⟨_,⟨_,e⟩,_⟩:=x;exact⟨_,e⟩
  |_=>exact False.elim mu
 obtain⟨od,e⟩:=ex;have new:bM X.prog X.w (upd H d (.frz od u)) s.heap d (.frz od u):=by
  refine⟨e,x.rn (λb v _ q=>q) (λb q=>?_) λb xs q=>?_⟩
  ·rw[ae (λz=>by rw[z,h]at q;cases q;exact mu)];exact q
  ·rw[ae (λz=>by rw[z,h]at q;cases q;exact mu)];exact q
 exact⟨od,I.write (x:=d) (e:=d) (t':=s.toks) (h':=s.heap) (by rw[h];exact mu) (.inl rfl) (λb v _ q=>q) ⟨od,e⟩ new⟩
theorem Inv.BZ{d:Addr}{u:HO}(I:Inv X pins σ H s)(h:H d=some u)(mu:Mut (some u)):∀o' u',X.H_0 d≠some (.frz o' u'):=λo' u' e=>by
 have q:=I.base.oJ d o' u' e;rw[h]at q;cases q;exact mu
theorem Inv.unlock{d:Addr}{od:Obj}{u:HO}(I:Inv X pins σ H s)(h:H d=some (.frz od u))(hn:∀o' u',X.H_0 d≠some (.frz o' u')):Inv X pins σ (upd H d u) s:=by
 have neH:∀b o,H b=some o→(∀o' u',o≠.frz o' u')→b≠d:=λb o e hne z=>by
  rw[z,h]at e;cases e;exact hne _ _ rfl
 have neN:∀b,H b=none→b≠d:=λb e z=>by rw[z,h]at e;cases e
 refine⟨I.ok,I.os,I.bare,⟨I.base.keep,I.base.slot,λb o e n hx=>?_,I.base.there,λb xs e=>?_,λb o x e=>?_,λb ps e=>?_⟩,I.loc,I.cell,?_,λx c e=>?_,λp hp=>?_,λb o e=>?_,I.len⟩
 ·rw[ae (neN b (I.base.free b o e n hx))];exact I.base.free b o e n hx
 ·have q:=I.base.qz b xs e;rw[ae (neH b _ q (λ_ _ z=>nomatch z))];exact q
 ·have q:=I.base.oJ b o x e;rw[ae (λz=>by rw[z]at e;exact hn _ _ e)];exact q
 ·obtain⟨m,q⟩:=I.base.qB b ps e;exact⟨m,by rw[ae (neH b _ q (λ_ _ z=>nomatch z))];exact q⟩
 ·rw[ae (neN _ I.free)];exact I.free
 ·rw[ae (neN c (I.gu x c e))];exact I.gu x c e
 ·obtain⟨e,n,r⟩:=I.pin p hp;exact⟨e,by rw[ae (neN _ n)];exact n,r⟩
 ·by_cases hb:b=d
  ·rw[hb,af]at e;cases e;rw[hb];obtain⟨_,x⟩:=I.hok d _ h;exact x.rn (λc v _ q=>q) (λc q=>by rw[ae (neH c _ q (λ_ _ z=>nomatch z))];exact q) λc xs q=>by rw[ae (neH c _ q (λ_ _ z=>nomatch z))];exact q
  ·rw[ae hb]at e;exact(I.hok b o e).rn (λc v _ q=>q) (λc q=>by rw[ae (neH c _ q (λ_ _ z=>nomatch z))];exact q) λc xs q=>by rw[ae (neH c _ q (λ_ _ z=>nomatch z))];exact q
end
def Ju(t:TS):TS:=λD σ H=>∃d u,H d=some u∧Mut (some u)∧∀od,t ⟨λσ' H'=>H' d=some (.frz od u)∧D.nx σ' (upd H' d u),λv H'=>H' d=some (.frz od u)∧D.rt v (upd H' d u),λσ' H'=>H' d=some (.frz od u)∧D.bk σ' (upd H' d u),λσ' H'=>H' d=some (.frz od u)∧D.ct σ' (upd H' d u)⟩ σ (upd H d (.frz od u))
section
variable {X:Cx}
theorem FO{st:Stmt}{t:TS}(h:PS X st t):PS X st (Ju t):=by
 intro pins s σ H D I hw;obtain⟨d,u,hd,mu,hw⟩:=hw;obtain⟨od,I1⟩:=I.lock hd mu;refine thn (h pins s σ _ _ I1 (hw od)) λf s1 q=>?_;cases f with
 |next=>obtain⟨σ',H',I2,e,q⟩:=q;exact⟨σ',_,I2.unlock e (I.BZ hd mu),q⟩
 |brk=>obtain⟨σ',H',I2,e,q⟩:=q;exact⟨σ',_,I2.unlock e (I.BZ hd mu),q⟩
 |cont=>obtain⟨σ',H',I2,e,q⟩:=q;exact⟨σ',_,I2.unlock e (I.BZ hd mu),q⟩
 |ret v=>obtain⟨x,σ',H',I2,r,e,q⟩:=q;exact⟨x,σ',_,I2.unlock e (I.BZ hd mu),r,q⟩
theorem AI{tg:Expr}{pins:List (Addr×Obj)}{σ:St}{H:Hp}{s:Shared}{R:It→Hp→Prop}{J:It}{tn:Nat→Heap→Prop}{tk:Nat}(I:Inv X pins σ H s)(o:Obj)
  (T:Turn X.prog X.w X.K tg J [s.heap.objs.size] s.heap.objs.size tn)(st:tn 0 (s.heap.push o))(q:R J H):PIE X pins σ tg R (.ref s.heap.objs.size) {s with heap:=s.heap.push o,toks:=tk}:=by
 refine⟨s.heap.objs.size,[s.heap.objs.size],tn,J,H,rfl,I.kept λb ob e=>Heap.get?_push_of_some _ e,T,st,λb hb=>?_,q⟩;have e:b=s.heap.objs.size:=by simpa using hb
 subst e;exact I.Gu (Nat.le_refl _) (I.hok.fresh (Nat.le_refl _))
end
def Itv(K:PySem.W.Frag)(a:Addr)(n:Nat):It:=
 ⟨λi H=>i<n∧∃(xs:List V)(x:V),SqL K H a xs∧xs[n-1-i]?=some x,λi H x H'=>H'=H∧∀xs,SqL K H a xs→xs[n-1-i]?=some x,λi _=>n≤i⟩
theorem Du{P:Program}{w:World}{K:PySem.W.Frag}{tg:Expr}(a it:Addr)(n:Nat):Turn P w K tg (Itv K a n) [it] it (λi h=>i≤n∧h.IsRevIter it a ((n:Int)-1-(i:Nat))) where
 mem:=by simp
 obj:=λi h st b hb=>by
  have e:b=it:=by simpa using hb
  subst e;obtain⟨_,o,e,c,d⟩:=st;exact⟨o,e,λv z=>by rw[d]at z;cases z⟩
 keep:=λi h h' st k=>⟨st.1,st.2.at λo e=>k it (by simp) o e⟩
 item:=by
  intro X hP hw hK hc i pins s σ H E I hf st hg;subst hP hw hK;obtain⟨hin,xs,x,hq,hx⟩:=hg;obtain⟨its,rv,p,hz⟩:=I.list hq;obtain⟨u,hu,ru⟩:=rv.get hx;obtain⟨f0,f1,f2,f3,f4,f5⟩:=hf it (by simp)
  obtain⟨_,hit⟩:=st;have e1:(n:Int)-1-((i:Nat):Int)=((n-1-i:Nat):Int):=by omega
  rw[e1]at hit;refine wpAny_pyNext_rev_item hit p.isList (x:=u) (by simpa using hu) λh' st' sb=>?_
  have e2:((n-1-i:Nat):Int)-1=(n:Int)-1-((i+1:Nat):Int):=by omega
  rw[e2]at st';have I1:Inv X pins σ H {s with heap:=h'}:=I.turned (t':=s.toks) (λb o hb e=>(sb.2 b hb).trans e) f0 f1 f3 f4 f5
  obtain⟨o,e,c,d⟩:=id st';exact⟨u,rfl,gq (s:={s with heap:=h'}) e c d (by decide) ⟨x,H,I1,ru,⟨rfl,λys hy=>by rw[I.zS hy hq];exact hx⟩,⟨hin,st'⟩,λb hb=>(hf b hb).1⟩⟩
 done:=by
  intro X hP hw hK hc i pins s σ H E I hf st hg;subst hP hw hK;obtain⟨f0,f1,f2,f3,f4,f5⟩:=hf it (by simp)
  obtain⟨hin,hit⟩:=st;have hge:n≤i:=hg;have e1:(n:Int)-1-((i:Nat):Int)=-1:=by omega
  rw[e1]at hit;exact wpAny_pyNext_rev_end (I.ok.hd hc) hit λh' eb=>⟨rfl,I.turned (t':=s.toks) (λb o hb e=>eb b o hb e) f0 f1 f3 f4 f5⟩
 self:=λA i s Q E st h=>wpAny_pyIter_revIter st.2 h
def Kh(K:PySem.W.Frag)(ta:TA):TI:=λσ H R=>ta σ H λvs H1=>∃(a:Addr)(xs:List V),vs=[.ref a]∧SqL K H1 a xs∧R (Itv K a xs.length) H1
section
variable {X:Cx}{tg:Expr}
theorem ug{e:Expr}{ta:TA}{p pos:Pos}(hg:Gl X "reversed")(hm:X.mg "reversed"=none)(ha:PA X [e] ta)(hs:starEach [e] X.env=[(false,eval e X.env)]:=by rfl):PI X tg (.Call (.Name "reversed" p) [e] [] pos) (Kh X.K ta):=by
 intro pins s σ H R I h;refine Call_ (A4 I hg hm wD (PyProof.Rows.callWith_type1 (thn (ha pos pins s σ H _ I h) λus s1⟨vs,H1,I1,r1,q1⟩=>?_) hs rfl));obtain⟨a,xs,e,hq,q⟩:=q1;subst e;cases r1 with
 |cons r rr=>
  cases rr;cases r;obtain⟨its,rv,p',hz⟩:=I1.list hq;have hl:=rv.length;have e1:((its.toArray.size:Nat):Int)-1=(xs.length:Int)-1-((0:Nat):Int):=by simp only[List.size_toArray];omega
  refine call_reversed_list p'.isList (wpAny_pyIter_revIter (l:=a) (i:=((its.toArray.size:Nat):Int)-1) ⟨_,Heap.get?_push_size _ rfl,rfl,rfl⟩ ?_);refine AI (tk:=s1.toks) I1 _ (Du a _ xs.length) ⟨Nat.zero_le _,?_⟩ q;rw[←e1];exact⟨_,Heap.get?_push_size _ rfl,rfl,rfl⟩
end
def Its(x:Str):It:=⟨λi _=>i<x.cps.size,λi H v H'=>H'=H∧∃c,x.cps[i]?=some c∧v=.str ⟨#[c]⟩,λi _=>x.cps.size≤i⟩
theorem zc{P:Program}{w:World}{K:PySem.W.Frag}{tg:Expr}(it:Addr)(x:Str)(t:Tok)(ty:String)(hty:ty="str_ascii_iterator"∨ty="str_iterator"):
  Turn P w K tg (Its x) [it] it (λi h=>h.IsStrIter it ty x t i) where
 mem:=by simp
 obj:=λi h st b hb=>by
  have e:b=it:=by simpa using hb
  subst e;obtain⟨o,e,c,d⟩:=st;exact⟨o,e,λv z=>by rw[d]at z;cases z⟩
 keep:=λi h h' st k=>let⟨o,ho,r⟩:=st;⟨o,k it (by simp) o ho,r⟩
 item:=by
  intro X hP hw hK hc i pins s σ H E I hf st hg;subst hP hw hK;obtain⟨f0,f1,f2,f3,f4,f5⟩:=hf it (by simp)
  have W:Walks X.prog X.w X.A it [it] [it] x.cps.size (SignAt x) (λi h=>h.IsStrIter it ty x t i):=by
   rcases hty with e|e
   ·rw[e];exact Walks.strAscii (I.ok.hd hc) it x t
   ·rw[e];exact Walks.strWide (I.ok.hd hc) it x t
  have hno:["enumerate","zip","dict_itemiterator","dict_reverseitemiterator","odict_iterator","itertools.zip_longest","itertools.pairwise"].contains ty=false:=by
   rcases hty with e|e
   ·rw[e];decide
   ·rw[e];decide
  refine W.item i s _ _ hg st λv h' tk hv st' kk=>?_;obtain⟨c,u,hcx,rfl⟩:=hv;have I1:Inv X pins σ H {s with heap:=h',toks:=tk}:=I.turned (λb o hb e=>kk b o (by simpa using hb) e) f0 f1 f3 f4 f5
  obtain⟨oi,e,cc,dd⟩:=id st';exact⟨_,rfl,gq (s:={s with heap:=h',toks:=tk}) e cc dd hno ⟨.str ⟨#[c]⟩,H,I1,⟨u,rfl⟩,⟨rfl,c,hcx,rfl⟩,st',λb hb=>(hf b hb).1⟩⟩
 done:=by
  intro X hP hw hK hc i pins s σ H E I hf st hg;subst hP hw hK;obtain⟨f0,f1,f2,f3,f4,f5⟩:=hf it (by simp)
  have hx:x.cps[i]?=none:=Array.getElem?_eq_none hg;rcases hty with e|e
  ·rw[e]at st;exact wpAny_pyNext_ascii_end (I.ok.hd hc) st hx λh' eb=>⟨rfl,I.turned (t':=s.toks) (λb o hb e=>eb b o hb e) f0 f1 f3 f4 f5⟩
  ·rw[e]at st;exact wpAny_pyNext_wide_end (I.ok.hd hc) st hx λh' eb=>⟨rfl,I.turned (t':=s.toks) (λb o hb e=>eb b o hb e) f0 f1 f3 f4 f5⟩
 self:=λA i s Q E st h=>by
  rcases hty with e|e
  ·rw[e]at st;exact wpAny_pyIter_striter_ascii st h
  ·rw[e]at st;exact wpAny_pyIter_striter_wide st h
def Kg(te:TE):TI:=λσ H R=>te σ H λv H1=>∃x,v=.str x∧R (Its x) H1
theorem Iq{X:Cx}{tg e:Expr}{te:TE}(he:PE X e te):PI X tg e (Kg te):=by
 intro pins s σ H R I h;refine thn (he pins s σ H _ I h) λv s1⟨y,H1,I1,r1,x,ex,q⟩=>?_;subst ex;obtain⟨t,rfl⟩:=r1;cases ha:x.cps.all (·<128)
 ·exact wpAny_pyIter_wide ha (AI (tk:=s1.toks) I1 _ (zc _ x t "str_iterator" (.inr rfl)) ⟨_,Heap.get?_push_size _ rfl,rfl,rfl⟩ q)
 ·exact wpAny_pyIter_ascii ha (AI (tk:=s1.toks) I1 _ (zc _ x t "str_ascii_iterator" (.inl rfl)) ⟨_,Heap.get?_push_size _ rfl,rfl,rfl⟩ q)
end L2
section
namespace TL
open PySem PySem.Builtin PySem.Builtin.Str PySem.StrLaws
end TL
end
namespace L2
open PySem PySem.Spec PyProof.Rows
section
variable {X:Cx}
end
theorem IsPart.raw{v:Value}{o:Option Int}(p:IsPart v o):∃l:Option (Int×Tok),v=partValue l∧l.map (·.1)=o:=by
 cases p with
 |none=>exact⟨none,rfl,rfl⟩
 |int i t=>exact⟨some (i,t),rfl,rfl⟩
def Aj(n d:Nat):Option Int→Int
 |none=>(d:Int)
 |some i=>max 0 (min (if i<0 then i+(n:Int)else i) (n:Int))
theorem Ai(n d:Nat)(o:Option Int):Aj n d o=((HT.sIx n d o:Nat):Int):=by
 cases o with
 |none=>rfl
 |some v=>
  show max (0:Int) (min (if v<0 then v+(n:Int)else v) (n:Int))=(((if v<0 then(v+(n:Int)).toNat else min v.toNat n):Nat):Int)
  by_cases hv:v<0
  ·simp only[if_pos hv];omega
  ·simp only[if_neg hv];omega
theorem CG(a b:Option Int)(n:Nat):Builtin.Str.strSliceIndices a b 1 n=sliceRange (Aj n 0 a) (Aj n n b) 1:=by
 have h1:((1:Int)>0)=True:=by simp
 cases a<;>cases b<;>first
  |rfl
  |(simp only[Builtin.Str.strSliceIndices,Aj,h1,if_true];rfl)
  |simp[Builtin.Str.strSliceIndices,Aj]
theorem KP(a b:Option Int)(n:Nat):Builtin.Str.strSliceIndices a b 1 n=(List.range (HT.sIx n n b-HT.sIx n 0 a)).map (λk=>HT.sIx n 0 a+k):=by
 rw[CG,Ai,Ai]
 generalize HT.sIx n 0 a=p
 generalize HT.sIx n n b=q
 simp only[sliceRange,show((1:Int)>0)=True from by simp,if_true]
 by_cases hlt:(p:Int)<q
 ·have e3:(((q:Int)-p+1-1)/1).toNat=q-p:=by first|omega|(simp;done)|(simp;omega)
  simp only[hlt,if_true,e3];refine List.map_congr_left λk _=>?_;omega
 ·have:q-p=0:=by omega
  simp[hlt,this]
def Gy(z:Str)(lo hi:Option Int):Str:=
 ⟨((z.cps.toList.drop (HT.sIx z.length 0 lo)).take (HT.sIx z.length z.length hi-HT.sIx z.length 0 lo)).toArray⟩
theorem pP(z:Str)(lo hi:Option Int):PySem.StrLaws.sliceText z lo hi=Gy z lo hi:=by
 have h1:HT.sIx z.length 0 lo≤z.length:=HT.DN _ _ (Nat.zero_le _) _;have h2:HT.sIx z.length z.length hi≤z.length:=HT.DN _ _ (Nat.le_refl _) _;have hp:HT.sIx z.length 0 lo≤max (HT.sIx z.length 0 lo) (HT.sIx z.length z.length hi):=Nat.le_max_left _ _;have hq:max (HT.sIx z.length 0 lo) (HT.sIx z.length z.length hi)≤z.length:=Nat.max_le.mpr ⟨h1,h2⟩;have hd:max (HT.sIx z.length 0 lo) (HT.sIx z.length z.length hi)-HT.sIx z.length 0 lo=HT.sIx z.length z.length hi-HT.sIx z.length 0 lo:=by omega
 have e:Builtin.Str.strSliceIndices lo hi 1 z.length=
   Builtin.Str.strSliceIndices (some ((HT.sIx z.length 0 lo:Nat):Int)) (some ((max (HT.sIx z.length 0 lo) (HT.sIx z.length z.length hi):Nat):Int)) 1 z.length:=by
  rw[PySem.StrLaws.strSliceIndices_plain hp hq,hd,KP]
 have e2:PySem.StrLaws.sliceText z lo hi=
   PySem.StrLaws.sliceText z (some ((HT.sIx z.length 0 lo:Nat):Int)) (some ((max (HT.sIx z.length 0 lo) (HT.sIx z.length z.length hi):Nat):Int)):=by
  unfold PySem.StrLaws.sliceText;rw[e]
 rw[e2,PySem.StrLaws.sliceText_nat z hp hq,hd];rfl
theorem Ah(z:Str)(lo hi:Option Int):(Gy z lo hi).length≤z.length:=by
 show(((z.cps.toList.drop (HT.sIx z.length 0 lo)).take (HT.sIx z.length z.length hi-HT.sIx z.length 0 lo)).toArray).size≤z.cps.size;rw[List.size_toArray,List.length_take,List.length_drop,Array.length_toList];omega
def K2:V→Option Int→Option Int→Hp→VK→Prop:=λx lo hi H Q=>∃z,x=.str z∧z.length≤sizeLine∧Q (.str (Gy z lo hi)) H
theorem HN{X:Cx}:SlR X K2:=by
 intro pins s σ H x v vl vu lo hi sl Q I rx hs pl pu h;obtain⟨z,rfl,hz,q⟩:=h;obtain⟨t,rfl⟩:=rx;obtain⟨os,hos,hcs,hds⟩:=hs;obtain⟨l,rfl,rfl⟩:=IsPart.raw pl;obtain⟨u,rfl,rfl⟩:=IsPart.raw pu;refine⟨"str",_,F.slot_str_getitem.lookup,typeIs_str _ _ _,?_⟩;refine wpAny_getItem_str_slice (l:=l) (u:=u) (st:=none) ⟨os,hos,hcs,hds⟩ rfl ?_;have hl:(PySem.StrLaws.sliceText z (l.map (·.1)) (u.map (·.1))).length≤sizeLine:=by
  rw[pP];exact Nat.le_trans (Ah z _ _) hz
 rw[←pP]at q;unfold PySem.StrLaws.sliceText at q hl;show Made.post (if((1:Int)==1&&(Builtin.Str.strSliceIndices (l.map (·.1)) (u.map (·.1)) 1 z.length).length==z.length)=true then Made.val (.str z t)
  else Made.str ⟨((Builtin.Str.strSliceIndices (l.map (·.1)) (u.map (·.1)) 1 z.length).filterMap (z.cps[·]?)).toArray⟩) (EP X pins σ Q) s
 by_cases c:((1:Int)==1&&(Builtin.Str.strSliceIndices (l.map (·.1)) (u.map (·.1)) 1 z.length).length==z.length)=true
 ·rw[if_pos c]at q⊢;exact⟨.str z,H,I,⟨t,rfl⟩,q⟩
 ·rw[if_neg c]at q hl⊢;exact⟨hl,.str _,H,I.tok _,⟨_,rfl⟩,q⟩
end L2
namespace Att
open PySem PySem.W PySem.Calls PyProof.Rows
section
variable {prog:Program}{w:World}{A:Around}{E:Value→Shared→Prop}{s:Shared}{K:Frag}
end
end Att
namespace L2
open PySem PySem.Spec PyProof.Rows
def inClass(s:Stmt)(j:Nat):Stmt:=match s with
 |.ClassDef _ _ _ body _ _ _ _ _ _ _=>body.getD j (.Pass ⟨0,0,0,0⟩)
 |_=>.Pass ⟨0,0,0,0⟩
def px(s:Stmt):Arguments:=match s with
 |.FunctionDef _ a _ _ _ _ _ _ _ _=>a
 |_=>{posonlyargs:=[],args:=[],vararg:=none,kwonlyargs:=[],kw_defaults:=[],kwarg:=none,defaults:=[]}
def eW(s:Stmt):List Stmt:=match s with
 |.FunctionDef _ _ b _ _ _ _ _ _ _=>b
 |_=>[]
def aj(s:Stmt):Scope:=match s with
 |.FunctionDef _ _ _ _ _ _ sc _ _ _=>sc
 |_=>{kind:=.function,names:=[],isGenerator:=false,isCoroutine:=false}
structure Fun(K:PySem.W.Frag)(x qual:Str)(st:Stmt)(f:Addr)(fd:FuncData):Prop where
 ex:∃(oc:Value)(od:Option Addr)(kV doc pm:Value)(an:Option Addr)(cdv ct:Value)(osl:Array (Option Value)),
  fd=PySem.W.fnOf x qual (px st) (eW st) (aj st) .none kV doc pm an cdv ct∧K.lookup f=some ⟨oc,od,.func fd,osl⟩∧PySem.W.codeIn K cdv qual=true
 kp:PySem.W.keepIn K (.ref f)=true
section
variable {P:Program}{w:World}{K:PySem.W.Frag}{mg:Str→Option Value}{base:Heap}
theorem Fun.binds{x qual:Str}{st:Stmt}{f:Addr}{fd:FuncData}{ps:List Str}(F:Fun K x qual st f fd)
  (h:∀(kV doc pm:Value)(an:Option Addr)(cdv ct:Value)(us:List Value),us.length=ps.length→bindArgs (PySem.W.fnOf x qual (px st) (eW st) (aj st) .none kV doc pm an cdv ct) ⟨us,[]⟩=pure (ps.zip us)):Binds K fd ps []:=by
 obtain⟨oc,od,kV,doc,pm,an,cdv,ct,osl,rfl,lk,hcd⟩:=F.ex;exact .all (h kV doc pm an cdv ct)
theorem oH{x qual:Str}{st:Stmt}{f:Addr}{oc:Value}{od an:Option Addr}{osl:Array (Option Value)}{kV doc pm cdv ct:Value}(l:K.lookup f=some ⟨oc,od,.func (PySem.W.fnOf x qual (px st) (eW st) (aj st) .none kV doc pm an cdv ct),osl⟩)
  (c:PySem.W.codeIn K cdv qual=true)(k:PySem.W.keepIn K (.ref f)=true):Fun K x qual st f (PySem.W.fnOf x qual (px st) (eW st) (aj st) .none kV doc pm an cdv ct):=⟨⟨oc,od,kV,doc,pm,an,cdv,ct,osl,rfl,l,c⟩,k⟩
end
theorem jI{A:Around}{k:Nat}(hr:cJ k A):A.units+1<cLine:=Nat.lt_of_le_of_lt (Nat.add_le_add_left (by decide:1≤64) _) hr.units
section
variable {X:Cx}
theorem pv(i:Nat){x:Str}{pos:Pos}(hN:X.N[i]?=some x:=by rfl)(hv:Vis X.env.scope x:=by first|exact Or.inl rfl|exact Or.inr (Or.inl rfl)|exact Or.inr (Or.inr rfl))(hd:(x==("__debug__":Str))=false:=by decide)
  (hcd:(x==("__classdict__":Str))=false:=by decide):PE X (.Name x pos) (b9 i):=Ir hN hv hd hcd
end
theorem gB{A B:Prop}(h:B):if false=true then A else B:=by
 rw[if_neg Bool.false_ne_true];exact h
theorem nE{A B:Prop}(h:A):if true=true then A else B:=by
 rw[if_pos rfl];exact h
def aE(H H':Hp):Prop:=∀b o,H b=some o→H' b=some o
theorem aE.refl(H:Hp):aE H H:=λ_ _ h=>h
theorem aE.trans{H H1 H2:Hp}(a:aE H H1)(b:aE H1 H2):aE H H2:=λc o h=>b c o (a c o h)
theorem aE.free{H H':Hp}(e:aE H H'){l:Addr}(h:H' l=Option.none):H l=Option.none:=by
 cases q:H l with
 |none=>rfl
 |some o=>
  rw[e l o q]at h;cases h
theorem aE.seq{K:PySem.W.Frag}{H H':Hp}{a:Addr}{xs:List V}(e:aE H H')(h:SqL K H a xs):SqL K H' a xs:=by
 rcases h with(h|⟨o,h⟩)|h
 ·exact .inl (.inl (e _ _ h))
 ·exact .inl (.inr ⟨o,e _ _ h⟩)
 ·exact .inr h
section
variable {κ:Type}[DecidableEq κ]
theorem yB:∀{l:List κ}{k:κ},l.Nodup→¬k∈l→(l++[k]).Nodup
 |[],k,_,_=>by simp
 |a::r,k,h,hk=>by
  obtain⟨h1,h2⟩:=List.nodup_cons.mp h;show(a::(r++[k])).Nodup;refine List.nodup_cons.mpr ⟨λm=>?_,yB h2 λm=>hk (List.mem_cons.mpr (Or.inr m))⟩;rcases List.mem_append.mp m with q|q
  ·exact h1 q
  ·exact hk (List.mem_cons.mpr (Or.inl (List.mem_singleton.mp q).symm))
end
theorem Em{α:Type}{l:List α}(hN:l.Nodup){i j:Nat}{x:α}(a:l[i]?=some x)(b:l[j]?=some x):i=j:=by
 obtain⟨h1,e1⟩:=List.getElem?_eq_some_iff.mp a;obtain⟨h2,e2⟩:=List.getElem?_eq_some_iff.mp b;exact(List.getElem_inj hN).mp (e1.trans e2.symm)
end L2
section
namespace L2
open PySem PySem.Spec PyProof.Rows
open PySem.W (WData Codec OpenSpec Well WellAll ReadsW ReadsAllW)
mutual
inductive Dw(K:PySem.W.Frag)(H:Hp):V→WData→Prop
 |non:Dw K H .non .none
 |bl (b:Bool):Dw K H (.bl b) (.bool b)
 |int (i:Int):Dw K H (.int i) (.int i)
 |str (x:Str):Dw K H (.str x) (.str x)
 |byt (b:Array UInt8):Dw K H (.byt b) (.bytes b.toList)
 |lst {a:Addr} {xs:List V} {ds:List WData}:SqL K H a xs→mZ K H xs ds→Dw K H (.ref a) (.list ds)
 |tup {a:Addr} {xs:List V} {ds:List WData}:SqT K H a xs→mZ K H xs ds→Dw K H (.ref a) (.tuple ds)
inductive mZ(K:PySem.W.Frag)(H:Hp):List V→List WData→Prop
 |nil:mZ K H [] []
 |cons {v:V} {vs:List V} {d:WData} {ds:List WData}:Dw K H v d→mZ K H vs ds→mZ K H (v::vs) (d::ds)
end
theorem Cg{K:PySem.W.Frag}{H:Hp}:∀ns:List Int,mZ K H (ns.map V.int) (ns.map WData.int)
 |[]=>.nil
 |n::r=>.cons (.int n) (Cg r)
theorem B6{K:PySem.W.Frag}{H:Hp}:∀(ns:List Int)(xs:List V),mZ K H xs (ns.map WData.int)→xs=ns.map V.int
 |[],xs,h=>by
  cases h;rfl
 |n::r,xs,h=>by
  cases h with
  |cons h1 h2=>
   cases h1;rw[B6 r _ h2]<;>rfl
section
variable {P:Program}{w:World}{K:PySem.W.Frag}{H:Hp}{h:Heap}{R:PySem.W.WRecords}{cl:Str→Option Addr}
theorem Hq{a:Addr}{xs:List V}(hok:HOk P w H h)(KX:K.In h)(q:SqL K H a xs):∃(its:List Value)(o:Obj)(n:Nat),Vals xs its∧h.get? a=some o∧o.cls=.type "list"∧o.data=.seq its.toArray n:=by
 rcases q with q|⟨o,its,n,e,hc,_,hd,_,hv⟩
 ·obtain⟨_,its,n,hv,e⟩:=(show bM P w H h a (.lst xs)from q.ok hok);exact⟨its,_,n,hv,e,rfl,rfl⟩
 ·exact⟨its.toList,o,n,hv,KX _ _ e,hc,by simp[hd]⟩
theorem Ho{a:Addr}{xs:List V}(hok:HOk P w H h)(KX:K.In h)(q:SqT K H a xs):∃(its:List Value)(o:Obj)(n:Nat),Vals xs its∧h.get? a=some o∧o.cls=.type "tuple"∧o.data=.seq its.toArray n:=by
 rcases q with q|⟨o,its,n,e,hc,hd,_,hv⟩
 ·obtain⟨_,its,hv,o,e,hc,n,hd⟩:=(show bM P w H h a (.tup xs)from q.ok hok);exact⟨its,o,n,hv,e,hc,hd⟩
 ·exact⟨its.toList,o,n,hv,KX _ _ e,hc,by simp[hd]⟩
mutual
theorem Dw.reads(hok:HOk P w H h)(KX:K.In h):∀(d:WData)(v:V)(u:Value),Dw K H v d→RelV v u→∃as,ReadsW R cl h u d as
 |.none,_,_,x,r=>by
  cases x;cases r;exact⟨_,ReadsW.none⟩
 |.bool b,_,_,x,r=>by
  cases x;cases r;exact⟨_,ReadsW.bool b⟩
 |.int i,_,_,x,r=>by
  cases x;obtain⟨t,rfl⟩:=r;exact⟨_,ReadsW.int i t⟩
 |.str s,_,_,x,r=>by
  cases x;obtain⟨t,rfl⟩:=r;exact⟨_,ReadsW.str s t⟩
 |.bytes b,_,_,x,r=>by
  cases x;obtain⟨t,rfl⟩:=r;exact⟨_,ReadsW.bytes _ t⟩
 |.list ds,_,_,x,r=>by
  cases x with
  |lst hs ha=>
   cases r;obtain⟨its,o,n,rv,ho,hc,hd⟩:=Hq hok KX hs;obtain⟨as,hr⟩:=Dw.readsAll hok KX ds _ its ha rv;exact⟨_,ReadsW.list ho hc hd hr⟩
 |.tuple ds,_,_,x,r=>by
  cases x with
  |tup hs ha=>
   cases r;obtain⟨its,o,n,rv,ho,hc,hd⟩:=Ho hok KX hs;obtain⟨as,hr⟩:=Dw.readsAll hok KX ds _ its ha rv;exact⟨_,ReadsW.tuple ho hc hd hr⟩
 |.float _,_,_,x,_=>by cases x
 |.dict _,_,_,x,_=>by cases x
 |.bytearray _,_,_,x,_=>by cases x
 |.set _,_,_,x,_=>by cases x
 |.frozenset _,_,_,x,_=>by cases x
 |.obj _ _,_,_,x,_=>by cases x
theorem Dw.readsAll(hok:HOk P w H h)(KX:K.In h):∀(ds:List WData)(vs:List V)(us:List Value),mZ K H vs ds→Vals vs us→∃as,ReadsAllW R cl h us ds as
 |[],_,_,x,r=>by
  cases x;cases r;exact⟨_,ReadsAllW.nil⟩
 |d::ds,_,_,x,r=>by
  cases x with
  |cons h1 h2=>
   cases r with
   |cons r1 r2=>
    obtain⟨as,q1⟩:=Dw.reads hok KX d _ _ h1 r1;obtain⟨bs,q2⟩:=Dw.readsAll hok KX ds _ _ h2 r2;exact⟨_,ReadsAllW.cons q1 q2⟩
end
end
mutual
def plW:WData→Bool
 |.none=>true
 |.bool _=>true
 |.int _=>true
 |.str _=>true
 |.bytes _=>true
 |.list xs=>uP xs
 |.tuple xs=>uP xs
 |_=>false
def uP:List WData→Bool
 |[]=>true
 |x::r=>plW x&&uP r
end
theorem zx{α:Type}{f:α→WData}(h:∀a,plW (f a)=true):∀l:List α,uP (l.map f)=true
 |[]=>rfl
 |x::r=>by
  show(plW (f x)&&uP (r.map f))=true;rw[h x,zx h r]<;>rfl
theorem n9:∀(c:Codec)(a:c.denote),plW (c.enc a)=true
 |.unit,_=>rfl
 |.bool,_=>rfl
 |.int _ _,_=>rfl
 |.nat _ _,_=>rfl
 |.u8,_=>rfl
 |.bytes _ _,_=>rfl
 |.text _ _ _ _,_=>rfl
 |.list _ _ c,a=>zx (λx=>n9 c x) a
 |.pair c d,a=>by
  show(plW (c.enc a.1)&&(plW (d.enc a.2)&&true))=true;rw[n9 c a.1,n9 d a.2]<;>rfl
 |.triple c d e,a=>by
  show(plW (c.enc a.1)&&(plW (d.enc a.2.1)&&(plW (e.enc a.2.2)&&true)))=true;rw[n9 c a.1,n9 d a.2.1,n9 e a.2.2]<;>rfl
 |.option c,none=>rfl
 |.option c,some x=>n9 c x
theorem xp:∀(cs:List Codec)(a:Codec.denoteAll cs),uP (Codec.encAll cs a)=true
 |[],_=>rfl
 |c::cs,a=>by
  show(plW (c.enc a.1)&&uP (Codec.encAll cs a.2))=true;rw[n9 c a.1,xp cs a.2]<;>rfl
theorem qy:∀{xs:List WData}{d:WData},d∈xs→d.weight≤WData.weightAll xs
 |[],d,h=>absurd h (by simp)
 |x::r,d,h=>by
  show d.weight≤x.weight+1+WData.weightAll r;rcases List.mem_cons.mp h with e|m
  ·rw[e];omega
  ·have z:=qy m;omega
def toV:Value→V
 |.none=>.non
 |.bool b=>.bl b
 |.int i _=>.int i
 |.str x _=>.str x
 |.bytes b _=>.byt b
 |.ref a=>.ref a
 |_=>.non
def OkU(A:List Addr):Value→Prop
 |.none=>True
 |.bool _=>True
 |.int _ _=>True
 |.str _ _=>True
 |.bytes _ _=>True
 |.ref a=>a∈A
 |_=>False
theorem OkU.mono{A B:List Addr}(h:∀a∈A,a∈B):∀{u:Value},OkU A u→OkU B u:=λ{u}x=>by
 cases u with
 |ref a=>exact h a x
 |none=>trivial
 |bool b=>trivial
 |int i t=>trivial
 |str s t=>trivial
 |bytes b t=>trivial
 |_=>exact False.elim x
theorem DT{A:List Addr}{u:Value}(x:OkU A u):RelV (toV u) u:=by
 cases u with
 |ref a=>rfl
 |none=>rfl
 |bool b=>rfl
 |int i t=>exact⟨t,rfl⟩
 |str s t=>exact⟨t,rfl⟩
 |bytes b t=>exact⟨t,rfl⟩
 |_=>exact False.elim x
theorem kX{A:List Addr}:∀{vs:List Value},(∀u∈vs,OkU A u)→Vals (vs.map toV) vs
 |[],_=>.nil
 |u::r,h=>.cons (DT (h u (List.mem_cons_self ..))) (kX λx hx=>h x (List.mem_cons_of_mem _ hx))
def m5(h:Heap)(A:List Addr)(a:Addr):Prop:=∃vs:List Value,vs.length≤sizeLine∧(∀u∈vs,OkU A u)∧
 (h.get? a=some {cls:=.type "list",data:=.seq vs.toArray}∨h.get? a=some {cls:=.type "tuple",data:=.seq vs.toArray})
theorem m5.mono{h:Heap}{A B:List Addr}{a:Addr}(k:∀a∈A,a∈B)(x:m5 h A a):m5 h B a:=by
 obtain⟨vs,h1,h2,h3⟩:=x;exact⟨vs,h1,λu hu=>(h2 u hu).mono k,h3⟩
theorem jW{P:Params}{h:Heap}:∀{vs:List Value}{ds:List WData},WellAll P h vs ds→vs.length=ds.length
 |_,_,.nil=>rfl
 |_,_,.cons _ b=>by
  show _+1=_+1;rw[jW b]
theorem w8{P:Params}{h:Heap}{v:Value}{ds:List WData}(x:Well P h v (.list ds)):∃(a:Addr)(vs:List Value),v=.ref a∧h.get? a=some {cls:=.type "list",data:=.seq vs.toArray}∧WellAll P h vs ds:=by
 cases x with
 |list ho hall=>exact⟨_,_,rfl,ho,hall⟩
theorem vh{P:Params}{h:Heap}{v:Value}{ds:List WData}(x:Well P h v (.tuple ds)):∃(a:Addr)(vs:List Value),v=.ref a∧h.get? a=some {cls:=.type "tuple",data:=.seq vs.toArray}∧WellAll P h vs ds:=by
 cases x with
 |tuple ho hall=>exact⟨_,_,rfl,ho,hall⟩
theorem w9{P:Params}{h:Heap}{us:List Value}{d:WData}{ds:List WData}(x:WellAll P h us (d::ds)):∃(v:Value)(vs:List Value),us=v::vs∧Well P h v d∧WellAll P h vs ds:=by
 cases x with
 |cons a b=>exact⟨_,_,rfl,a,b⟩
theorem B3{n:Nat}(h:n≤1048576):n≤sizeLine:=Nat.le_trans h (by decide)
section
variable {P:Params}{h:Heap}
mutual
theorem E2:∀(d:WData)(v:Value),Well P h v d→plW d=true→d.weight≤1048576→∃A:List Addr,OkU A v∧∀a∈A,m5 h A a
 |.none,_,x,_,_=>by
  cases x;exact⟨[],trivial,λa m=>absurd m (by simp)⟩
 |.bool b,_,x,_,_=>by
  cases x;exact⟨[],trivial,λa m=>absurd m (by simp)⟩
 |.int i,_,x,_,_=>by
  cases x;exact⟨[],trivial,λa m=>absurd m (by simp)⟩
 |.str s,_,x,_,_=>by
  cases x;exact⟨[],trivial,λa m=>absurd m (by simp)⟩
 |.bytes b,_,x,_,_=>by
  cases x;exact⟨[],trivial,λa m=>absurd m (by simp)⟩
 |.list ds,_,x,p,z=>by
  obtain⟨a,vs,rfl,ho,hall⟩:=w8 x;have z2:WData.weightAll ds≤1048576:=z;obtain⟨A,h1,h2⟩:=sH ds _ hall p λd hd=>Nat.le_trans (qy hd) z2;have k:∀b∈A,b∈a::A:=λb hb=>List.mem_cons_of_mem _ hb;refine⟨a::A,List.mem_cons_self ..,λb hb=>?_⟩;rcases List.mem_cons.mp hb with e|m
  ·rw[e];exact⟨vs,B3 (by rw[jW hall];exact Nat.le_trans (PySem.W.length_le_weightAllW ds) z2),λu hu=>(h1 u hu).mono k,.inl ho⟩
  ·exact(h2 b m).mono k
 |.tuple ds,_,x,p,z=>by
  obtain⟨a,vs,rfl,ho,hall⟩:=vh x;have z2:WData.weightAll ds≤1048576:=z;obtain⟨A,h1,h2⟩:=sH ds _ hall p λd hd=>Nat.le_trans (qy hd) z2;have k:∀b∈A,b∈a::A:=λb hb=>List.mem_cons_of_mem _ hb;refine⟨a::A,List.mem_cons_self ..,λb hb=>?_⟩;rcases List.mem_cons.mp hb with e|m
  ·rw[e];exact⟨vs,B3 (by rw[jW hall];exact Nat.le_trans (PySem.W.length_le_weightAllW ds) z2),λu hu=>(h1 u hu).mono k,.inr ho⟩
  ·exact(h2 b m).mono k
 |.float _,_,_,p,_=>Bool.noConfusion (show false=true from p)
 |.dict _,_,_,p,_=>Bool.noConfusion (show false=true from p)
 |.bytearray _,_,_,p,_=>Bool.noConfusion (show false=true from p)
 |.set _,_,_,p,_=>Bool.noConfusion (show false=true from p)
 |.frozenset _,_,_,p,_=>Bool.noConfusion (show false=true from p)
 |.obj _ _,_,_,p,_=>Bool.noConfusion (show false=true from p)
theorem sH:∀(ds:List WData)(vs:List Value),WellAll P h vs ds→uP ds=true→(∀d∈ds,d.weight≤1048576)→∃A:List Addr,(∀u∈vs,OkU A u)∧∀a∈A,m5 h A a
 |[],_,x,_,_=>by
  cases x;exact⟨[],λu m=>absurd m (by simp),λa m=>absurd m (by simp)⟩
 |d::ds,_,x,p,z=>by
  obtain⟨v,vs,rfl,x1,x2⟩:=w9 x;have q:plW d=true∧uP ds=true:=Bool.and_eq_true_iff.mp p;obtain⟨A,a1,a2⟩:=E2 d v x1 q.1 (z d (List.mem_cons_self ..));obtain⟨B,b1,b2⟩:=sH ds vs x2 q.2 λe he=>z e (List.mem_cons_of_mem _ he);have kA:∀b∈A,b∈A++B:=λb hb=>List.mem_append.mpr (.inl hb);have kB:∀b∈B,b∈A++B:=λb hb=>List.mem_append.mpr (.inr hb);refine⟨A++B,λu hu=>?_,λb hb=>?_⟩
  ·rcases List.mem_cons.mp hu with e|m
   ·rw[e];exact a1.mono kA
   ·exact(b1 u m).mono kB
  ·rcases List.mem_append.mp hb with m|m
   ·exact(a2 b m).mono kA
   ·exact(b2 b m).mono kB
end
end
def Gq(o:Obj):Option HO:=match o.data with
 |.seq vs _=>if(o.cls==Value.type "list")=true then some (.frz o (.lst (vs.toList.map toV)))else some (.frz o (.tup (vs.toList.map toV)))
 |_=>none
def mG(K:PySem.W.Frag)(h:Heap)(A:List Addr):Hp:=λb=>if b∈A then(if(K.lookup b).isNone=true then(h.get? b).bind Gq else none)else none
def Aq(H:Hp):Prop:=∀b,H b=none∨∃o u,H b=some (.frz o u)
theorem zZ(vs:List Value):Gq {cls:=.type "list",data:=.seq vs.toArray}=some (.frz {cls:=.type "list",data:=.seq vs.toArray} (.lst (vs.map toV))):=by
 show(if(Value.type "list"==Value.type "list")=true then some (HO.frz {cls:=.type "list",data:=.seq vs.toArray} (.lst (vs.toArray.toList.map toV)))else some (HO.frz {cls:=.type "list",data:=.seq vs.toArray} (.tup (vs.toArray.toList.map toV))))=_
 rw[if_pos (beq_self_eq_true _)]
theorem zY(vs:List Value):Gq {cls:=.type "tuple",data:=.seq vs.toArray}=some (.frz {cls:=.type "tuple",data:=.seq vs.toArray} (.tup (vs.map toV))):=by
 show(if(Value.type "tuple"==Value.type "list")=true then some (HO.frz {cls:=.type "tuple",data:=.seq vs.toArray} (.lst (vs.toArray.toList.map toV)))else some (HO.frz {cls:=.type "tuple",data:=.seq vs.toArray} (.tup (vs.toArray.toList.map toV))))=_
 rw[if_neg (by decide)]
section
variable {P:Program}{w:World}{K:PySem.W.Frag}{h:Heap}{A:List Addr}
theorem vg{b:Addr}{o:Obj}(hb:b∈A)(hk:K.lookup b=none)(e:h.get? b=some o):mG K h A b=Gq o:=by
 unfold mG;rw[if_pos hb,hk,if_pos (show(none:Option Obj).isNone=true from rfl),e]<;>rfl
theorem F7{b:Addr}{u:HO}(q:mG K h A b=some u):b∈A∧K.lookup b=none:=by
 unfold mG at q
 by_cases hb:b∈A
 ·rw[if_pos hb]at q;cases hk:K.lookup b with
  |none=>exact⟨hb,rfl⟩
  |some o=>
   rw[hk,if_neg (by simp)]at q
   cases q
 ·rw[if_neg hb]at q;cases q
theorem vf(ar:∀a∈A,m5 h A a){b:Addr}{u:HO}(q:mG K h A b=some u):K.lookup b=none∧∃vs:List Value,vs.length≤sizeLine∧(∀u∈vs,OkU A u)∧
  ((h.get? b=some {cls:=.type "list",data:=.seq vs.toArray}∧u=.frz {cls:=.type "list",data:=.seq vs.toArray} (.lst (vs.map toV)))∨
   (h.get? b=some {cls:=.type "tuple",data:=.seq vs.toArray}∧u=.frz {cls:=.type "tuple",data:=.seq vs.toArray} (.tup (vs.map toV)))):=by
 obtain⟨hb,hk⟩:=F7 q;obtain⟨vs,h1,h2,h3⟩:=ar b hb;refine⟨hk,vs,h1,h2,?_⟩;rcases h3 with e|e
 ·rw[vg hb hk e,zZ]at q;exact .inl ⟨e,(Option.some.inj q).symm⟩
 ·rw[vg hb hk e,zY]at q;exact .inr ⟨e,(Option.some.inj q).symm⟩
theorem Dj(ar:∀a∈A,m5 h A a):Aq (mG K h A):=λb=>by
 cases q:mG K h A b with
 |none=>exact .inl rfl
 |some u=>
  obtain⟨_,vs,_,_,⟨_,e⟩|⟨_,e⟩⟩:=vf ar q
  ·exact .inr ⟨_,_,by rw[e]⟩
  ·exact .inr ⟨_,_,by rw[e]⟩
theorem GA(ar:∀a∈A,m5 h A a):HOk P w (mG K h A) h:=λb u q=>by
 obtain⟨_,vs,h1,h2,⟨e,rfl⟩|⟨e,rfl⟩⟩:=vf ar q
 ·exact⟨e,by rw[List.length_map];exact h1,vs,_,kX h2,e⟩
 ·exact⟨e,by rw[List.length_map];exact h1,vs,kX h2,_,e,rfl,_,rfl⟩
theorem uU{c c':Value}{vs us:List Value}(e:(some {cls:=c,data:=.seq vs.toArray}:Option Obj)=some {cls:=c',data:=.seq us.toArray}):c=c'∧vs=us:=by
 have e1:=Option.some.inj e;have e2:c=c':=congrArg Obj.cls e1;have e3:Data.seq vs.toArray=Data.seq us.toArray:=congrArg Obj.data e1;injection e3 with e4
 refine⟨e2,?_⟩;have e5:=congrArg Array.toList e4
 simpa using e5
theorem Lf(KX:K.In h)(ar:∀a∈A,m5 h A a){a:Addr}{vs:List Value}(ha:a∈A)(e:h.get? a=some {cls:=.type "list",data:=.seq vs.toArray}):(∀u∈vs,OkU A u)∧SqL K (mG K h A) a (vs.map toV):=by
 obtain⟨us,h1,h2,h3⟩:=ar a ha;have hu:us=vs:=by
  rcases h3 with q|q
  ·rw[e]at q;exact(uU q).2.symm
  ·rw[e]at q;exact absurd (Value.type.inj (uU q).1) (by decide)
 subst hu;refine⟨h2,?_⟩;cases hk:K.lookup a with
 |none=>exact .inl (.inr ⟨_,by rw[vg ha hk e,zZ]⟩)
 |some o=>
  have e2:=KX a o hk;rw[e]at e2;obtain rfl:=Option.some.inj e2;exact .inr ⟨_,us.toArray,_,hk,rfl,rfl,rfl,by rw[List.size_toArray];exact h1,by simpa using kX h2⟩
theorem Le(KX:K.In h)(ar:∀a∈A,m5 h A a){a:Addr}{vs:List Value}(ha:a∈A)(e:h.get? a=some {cls:=.type "tuple",data:=.seq vs.toArray}):(∀u∈vs,OkU A u)∧SqT K (mG K h A) a (vs.map toV):=by
 obtain⟨us,h1,h2,h3⟩:=ar a ha;have hu:us=vs:=by
  rcases h3 with q|q
  ·rw[e]at q;exact absurd (Value.type.inj (uU q).1) (by decide)
  ·rw[e]at q;exact(uU q).2.symm
 subst hu;refine⟨h2,?_⟩;cases hk:K.lookup a with
 |none=>exact .inl (.inr ⟨_,by rw[vg ha hk e,zY]⟩)
 |some o=>
  have e2:=KX a o hk;rw[e]at e2;obtain rfl:=Option.some.inj e2;exact .inr ⟨_,us.toArray,_,hk,rfl,rfl,by rw[List.size_toArray];exact h1,by simpa using kX h2⟩
mutual
theorem IY{Pm:Params}(KX:K.In h)(ar:∀a∈A,m5 h A a):∀(d:WData)(v:Value),Well Pm h v d→plW d=true→OkU A v→Dw K (mG K h A) (toV v) d
 |.none,_,x,_,_=>by
  cases x;exact .non
 |.bool b,_,x,_,_=>by
  cases x;exact .bl b
 |.int i,_,x,_,_=>by
  cases x;exact .int i
 |.str s,_,x,_,_=>by
  cases x;exact .str s
 |.bytes b,_,x,_,_=>by
  cases x;have z:=Dw.byt (K:=K) (H:=mG K h A) b.toArray;exact z
 |.list ds,_,x,p,hu=>by
  obtain⟨a,vs,rfl,ho,hall⟩:=w8 x;obtain⟨h2,hs⟩:=Lf KX ar hu ho;exact .lst hs (yR KX ar ds _ hall p h2)
 |.tuple ds,_,x,p,hu=>by
  obtain⟨a,vs,rfl,ho,hall⟩:=vh x;obtain⟨h2,hs⟩:=Le KX ar hu ho;exact .tup hs (yR KX ar ds _ hall p h2)
 |.float _,_,_,p,_=>Bool.noConfusion (show false=true from p)
 |.dict _,_,_,p,_=>Bool.noConfusion (show false=true from p)
 |.bytearray _,_,_,p,_=>Bool.noConfusion (show false=true from p)
 |.set _,_,_,p,_=>Bool.noConfusion (show false=true from p)
 |.frozenset _,_,_,p,_=>Bool.noConfusion (show false=true from p)
 |.obj _ _,_,_,p,_=>Bool.noConfusion (show false=true from p)
theorem yR{Pm:Params}(KX:K.In h)(ar:∀a∈A,m5 h A a):∀(ds:List WData)(vs:List Value),WellAll Pm h vs ds→uP ds=true→(∀u∈vs,OkU A u)→mZ K (mG K h A) (vs.map toV) ds
 |[],_,x,_,_=>by
  cases x;exact .nil
 |d::ds,_,x,p,hu=>by
  obtain⟨v,vs,rfl,x1,x2⟩:=w9 x;have q:plW d=true∧uP ds=true:=Bool.and_eq_true_iff.mp p;exact .cons (IY KX ar d v x1 q.1 (hu _ (List.mem_cons_self ..))) (yR KX ar ds vs x2 q.2 λu m=>hu u (List.mem_cons_of_mem _ m))
end
end
theorem CC{P:Program}{w:World}{K:PySem.W.Frag}{mg mb:Str→Option Value}{CX:CXT}{k:Nat}{fa:Addr}{fd:FuncData}{ps:List Str}{sp:Sp}{s₁:Shared}{vals:List Value}{ds:List WData}{R:PySem.W.WRecords}{cl:Str→Option Addr}{d0:WData}
  (KX:K.In s₁.heap)(hns:s₁.heap.Ns mainGlobals mg)(hb:s₁.heap.Ns builtinsNs mb)(hbb:∀x:Str,x≠"__name__"→mb x=bootBuiltins x)(hlim:s₁.heap.NoLimit)(hg:s₁.gens=#[])
  (hwl:WellAll w.params s₁.heap vals ds)(hpl:uP ds=true)(hwt:∀d∈ds,d.weight≤1048576)(hr:cJ k callerA)
  (F:∀base:Heap,K.In base→base.Ns mainGlobals mg→lM P w K mg base CX k fa fd ps sp)(hbind:∀(s:Shared)(us:List Value),us.length=ps.length→BindsTo s fd ⟨us,[]⟩ (ps.zip us))(hlen:ds.length=ps.length)
  (hsp:∀(H:Hp)(xs:List V),Aq H→mZ K H xs ds→sp xs H (λv H'=>Dw K H' v d0) λ_ _ _=>False)
  (hCX:∀H e s',CX [] H s₁ (λ_ _ _=>False) e s'→False):
  codeAny (model P w) callerA (.call (.ref fa) ⟨vals,[]⟩) (λr s'=>∃u as,r=.ok (.ret u)∧ReadsW R cl s'.heap u d0 as∧OldK s₁.heap s'.heap∧s'.os=s₁.os∧AllBare s'.gens) s₁:=by
 obtain⟨A,ho,ar⟩:=sH ds vals hwl hpl hwt;have hO:Aq (mG K s₁.heap A):=Dj ar;have hok:HOk P w (mG K s₁.heap A) s₁.heap:=GA ar;have hS:=yR KX ar ds vals hwl hpl ho;have hV:=kX ho;have hK:∀b u,mG K s₁.heap A b=some u→K.lookup b=none:=λb u q=>(vf ar q).1;have noA:∀{b:Addr}{o:Obj}{es:Array DictEntry}{ep:Nat},s₁.heap.get? b=some o→o.data=.dict es ep→mG K s₁.heap A b=none:=λ{b o es ep}e d=>by
  cases q:mG K s₁.heap A b with
  |none=>rfl
  |some u=>
   obtain⟨_,vs,_,_,⟨e2,_⟩|⟨e2,_⟩⟩:=vf ar q
   ·rw[e2]at e;cases e;have d':Data.seq vs.toArray _=Data.dict es ep:=d;cases d'
   ·rw[e2]at e;cases e;have d':Data.seq vs.toArray _=Data.dict es ep:=d;cases d'
 generalize mG K s₁.heap A=H at hO hok hS hK noA
 have base_of:∀{b:Addr}{o:Obj},s₁.heap.get? b=some o→H b=none→(yM s₁.heap H).get? b=some o:=λe n=>EE e n;have nsK:∀{b:Addr}{m:Str→Option Value},s₁.heap.Ns b m→(yM s₁.heap H).Ns b m:=λ{b m}⟨o,es,ep,e,d,r⟩=>⟨o,es,ep,base_of e (noA e d),d,r⟩;have nK:∀b o,K.lookup b=some o→H b=none:=λb o e=>by
  cases q:H b with
  |none=>rfl
  |some u=>
   rw[hK b u q]at e;cases e
 have hKb:K.In (yM s₁.heap H):=λb o e=>base_of (KX b o e) (nK b o e);have hM:Mod K mg (yM s₁.heap H):=⟨hKb,nsK hns,⟨mb,nsK hb,hbb⟩,let⟨mc,h1,h2⟩:=hlim;⟨mc,nsK h1,h2⟩⟩;have e0:Bv P w K mg (yM s₁.heap H) callerA [] s₁ H:=⟨rfl,hM,λb o e=>F6 e,Nat.le_of_eq (C6 _ _),trivial,λb hb=>absurd (show b∈([]:List Addr)from hb) (by simp),hok,.of_eq hg⟩
 have hl:vals.length=ps.length:=by rw[jW hwl];exact hlen
 refine codeAny_mono ((F _ hKb (nsK hns)).run callerA [] s₁ H ⟨vals,[]⟩ vals (vals.map toV) _ _ hr e0 (hbind s₁ vals hl) hV (hsp H _ hO hS)) λr s' x=>?_;cases r with
 |error e=>exact(hCX H e s' x).elim
 |ok fl=>
  cases fl with
  |next=>exact False.elim x
  |brk=>exact False.elim x
  |cont=>exact False.elim x
  |ret u=>
   obtain⟨v,H',os,bare,un,hok',r',q⟩:=x;have kept:∀b o,s₁.heap.get? b=some o→s'.heap.get? b=some o:=λb o e=>by
    cases q2:H b with
    |none=>exact un.keep b o e q2 (by intro z;exact absurd (show b∈([]:List Addr)from z) (by simp)) (by simp)
    |some u2=>
     rcases hO b with z|⟨ob,u3,z⟩
     ·rw[q2]at z;cases z
     ·have z2:=un.oJ b ob _ z;obtain⟨e1,_⟩:=hok b _ z;obtain⟨e2,_⟩:=hok' b _ z2;rw[e]at e1;cases e1;exact e2
   have KX':K.In s'.heap:=λb o e=>kept b o (KX b o e);obtain⟨as,hrd⟩:=Dw.reads (R:=R) (cl:=cl) hok' KX' d0 v u q r';exact⟨u,as,rfl,hrd,OldK.of_keep kept,os,bare⟩
theorem vZ{ds:List WData}(h:WData.layableAll ds=true):∀d∈ds,d.weight≤1048576:=λd hd=>
 (PySem.W.layableW_iff.mp (List.all_eq_true.mp h d hd)).2.2
theorem wu:∀(cs:List Codec)(a:Codec.denoteAll cs),(Codec.encAll cs a).length=cs.length
 |[],_=>rfl
 |c::cs,a=>by
  show(Codec.encAll cs a.2).length+1=cs.length+1;rw[wu cs a.2]
theorem Ct{r:OpenSpec}{k:Nat}{q:Program}{loose:List Str}{XP:(Str→Option Value)→Heap→Prop}{YP:World→Heap→Prop}{d:DefRec}{K:Params→PySem.W.Frag}{CX:World→CXT}{ps:List Str}{sp:World→Sp}
  (hwell:r.wellSaid=true)(hdf:d.params.defaults=[])(hlen:r.args.length=ps.length)(hr:cJ k callerA)
  (hY:∀(w:World)(h:Heap),YP w h→(K w.params).In h)
  (F:∀(w:World)(mg:Str→Option Value)(fa:Addr)(h:Heap),YP w h→(K w.params).In h→h.Ns mainGlobals mg→mg d.name=some (.ref fa)→
   ∃fd:FuncData,(∀(s:Shared)(us:List Value),us.length=ps.length→BindsTo s fd ⟨us,[]⟩ (ps.zip us))∧
    ∀base:Heap,(K w.params).In base→base.Ns mainGlobals mg→lM r.prog w (K w.params) mg base (CX w) k fa fd ps (sp w))
  (hsp:∀(w:World)(H:Hp)(xs:List V)(a:Codec.denoteAll r.args),Aq H→Codec.withinAll r.args a=true→Codec.app r.args r.asked a=true→mZ (K w.params) H xs (Codec.encAll r.args a)→
   sp w xs H (λv H'=>Dw (K w.params) H' v (r.ret.enc (Codec.app r.args r.f a))) λ_ _ _=>False)
  (hCX:∀(w:World)(H:Hp)(s:Shared)(e:Value)(s':Shared),CX w [] H s (λ_ _ _=>False) e s'→False):
  PySem.W.WalkOS q loose XP YP r d [] (λf vs=>PySem.call f vs):=by
 intro w s_0 s₁ mg mb G Y fa o pm cd doc dV kV ho hd hcd hD hmg hg args vals as hpre hlay hrd hwl hlo;obtain⟨a,e1,e2⟩:=PySem.W.os_pre_some hpre;obtain⟨e3,hwi⟩:=Codec.encAll_of_decAll r.args args a e1;subst e3;have KX:=hY w _ Y;obtain⟨fd,hb,hF⟩:=F w mg fa _ Y KX G.T.g hmg;refine PySem.W.enter_call (codeAny_mono (CC (R:=[]) (cl:=classAt s_0.heap) (d0:=r.ret.enc (Codec.app r.args r.f a)) KX G.T.g G.T.b G.T.builtins G.T.nolimit hg hwl (xp _ _) (vZ hlay) hr hF hb (by rw[wu];exact hlen)
  (λH xs hO hS=>hsp w H xs a hO hwi e2 hS) λH e s'=>hCX w H s₁ e s') λr' s' hq=>?_)
 obtain⟨u,as',rfl,h1,h2,h3,h4⟩:=hq;exact⟨.inl ⟨u,_,as',rfl,λ_=>rfl,h1,(OpenSpec.post_iff hwell hwi _ _).mpr rfl,λz=>Bool.noConfusion (show false=true from z)⟩,h2,h3,h4⟩
end L2
end
namespace LX
open PySem
abbrev frA(l:List Env):List Addr:=l.filterMap (·.frame)
def Head(h:Heap)(e:Addr)(vs:Array Value)(T:Option Addr):Prop:=match T with
 |none=>vs[1]?=some Value.none
 |some T=>vs[1]?=some (.ref T)∧T≠e∧∃oT ts,h.get? T=some oT∧oT.data=.fields ts∧ts[3]?=some Value.none
structure x5(l:List Env)(e:Addr)(oe:Obj)(T:Option Addr)(T':Addr)(fl:Value)(h h':Heap):Prop where
 new:h.get? T'=none
 exc:h'.get? e=some (oe.mapFields (·.setIfInBounds 1 (.ref T')))
 head:∃oT ts,h'.get? T'=some oT∧oT.data=.fields ts∧ts[3]?=some fl
 keep:∀b o,b≠e→T≠some b→b∉frA l→h.get? b=some o→h'.get? b=some o
 slot:∀b o,b∈frA l→h.get? b=some o→∃sl,h'.get? b=some {o with slots:=sl}
section
variable {M:Model}{A:Around}{E:Value→Shared→Prop}{s:Shared}
theorem Ce{base:Heap}{env:Env}{outer:List Env}{L e:Addr}{oe:Obj}{vs:Array Value}{hd0:Value}{hn:Bool}{Q:Unit→Shared→Prop}(hfr:A.frames=some (env::outer))(hl:s.heap.FunFrames base (env::outer))
  (hf:env.frame=some L)(he:s.heap.get? e=some oe)(hd:oe.data=.fields vs)(hsz:1<vs.size)
  (hQ:∀h' T',x5 (env::outer) e oe none T' (rawInt L) s.heap h'→Q () {s with heap:=h'}):
  wpAny M A (do let a←frameOf env;let pl←entryPlaceOf L hn;let b←EntryCells.newEntry hd0 a .none (rawInt L) .none pl;setField (.ref e) 1 b) Q E s:=by
 have ene:e∉frA (env::outer):=λz=>by
  obtain⟨_,o,ho,nf⟩:=hl.mem z;rw[he]at ho;cases ho;exact nf vs hd
 refine wpAny_bind (wpAny_frameOf_fun hfr hl hf λh1 so=>?_);refine wpAny_bind (wpAny_entryPlaceOf λpl ip=>?_);unfold EntryCells.newEntry newFields;refine wpAny_bind (wpAny_newObj_type ?_ (ip.sizeOk5 _ _ _ _ _))
 generalize hO:({cls:=.type "traceback",dict:=none,data:=.fields ([hd0,.ref L,.none,rawInt L,.none]++(if pl.isEmpty then List.replicate 6 Value.none else pl)).toArray}:Obj)=O
 have he1:h1.get? e=some oe:=(so.2.1 e ene).trans he;have he2:(h1.push O).get? e=some oe:=Heap.get?_push_of_some O he1;have tne:h1.objs.size≠e:=Nat.ne_of_gt (Heap.lt_size he1);have hd3:=Obj.data_mapFields hd (·.setIfInBounds 1 (Value.ref h1.objs.size))
 have he3:=Heap.get?_update_self (Obj.mapFields (·.setIfInBounds 1 (Value.ref h1.objs.size))) he2 (Obj.isFreed_of_fields hd3)
 have keep:∀b o,b≠e→h1.get? b=some o→((h1.push O).update e (Obj.mapFields (·.setIfInBounds 1 (Value.ref h1.objs.size)))).get? b=some o:=λb o ne q=>by
  rw[Heap.get?_update_other _ _ (Ne.symm ne)];exact Heap.get?_push_of_some O q
 refine wpAny_setField he2 hd hsz (hQ _ h1.objs.size ⟨?_,he3,?_,λb o ne _ nf q=>keep b o ne ((so.2.1 b nf).trans q),λb o bf q=>?_⟩)
 ·cases z:s.heap.get? h1.objs.size with
  |none=>rfl
  |some o=>
   obtain⟨sl,z1⟩:=so.2.2 _ o z;exact absurd (Heap.lt_size z1) (Nat.lt_irrefl _)
 ·refine⟨O,_,(Heap.get?_update_other _ _ (Ne.symm tne)).trans (Heap.get?_push_size h1 (by subst hO;rfl)),by subst hO;rfl,?_⟩
  simp
 ·obtain⟨sl,q1⟩:=so.2.2 b o q;exact⟨sl,keep b _ (λz=>ene (z▸bf)) q1⟩
theorem Iz{base:Heap}{env:Env}{outer:List Env}{L e:Addr}{oe:Obj}{vs:Array Value}{T:Option Addr}{Q:Unit→Shared→Prop}(hfr:A.frames=some (env::outer))(hl:s.heap.FunFrames base (env::outer))
  (hf:env.frame=some L)(he:s.heap.get? e=some oe)(hd:oe.data=.fields vs)(hT:Head s.heap e vs T)
  (hQ:∀h' T',x5 (env::outer) e oe T T' (rawInt L) s.heap h'→Q () {s with heap:=h'}):wpAny M A (noteFrame (.ref e) env) Q E s:=by
 unfold noteFrame;simp only[hf];cases T with
 |none=>
  refine wpAny_bind (wpAny_field he hd (show vs[1]?=some Value.none from hT) ?_);rw[if_neg (by decide)]
  refine Ce hfr hl hf he hd (Array.getElem?_eq_some_iff.mp (show vs[1]?=some Value.none from hT)).1 λh' T' n=>hQ h' T' n
 |some T=>
  obtain⟨h1,ne,oT,ts,g,dT,h3⟩:=hT;refine wpAny_bind (wpAny_field he hd h1 ?_);rw[if_pos (show(Value.ref T !=Value.none)=true from by simp)]
  refine wpAny_bind (wpAny_field g dT h3 ?_);rw[if_neg (show¬((Value.none==rawInt L)=true)from by simp[rawInt])]
  refine wpAny_bind (wpAny_setField g dT (Array.getElem?_eq_some_iff.mp h3).1 ?_);have oth:∀b,b≠T→(s.heap.update T (Obj.mapFields (·.setIfInBounds 3 Value.none))).get? b=s.heap.get? b:=λb nb=>Heap.get?_update_other _ _ (Ne.symm nb)
  have nrec:∀b o,s.heap.get? b=some o→(∀vs,o.data≠.fields vs)→b≠T:=λb o q nf z=>by
   rw[z,g]at q;cases q;exact nf ts dT
  have hl':(s.heap.update T (Obj.mapFields (·.setIfInBounds 3 Value.none))).FunFrames base (env::outer):=hl.of_keeps λb o q nf=>⟨o,(oth b (nrec b o q nf)).trans q,rfl⟩
  have T':=(oth e (Ne.symm ne)).trans he;refine Ce hfr hl' hf T' hd (Array.getElem?_eq_some_iff.mp h1).1 λh' T2 n=>hQ h' T2 ⟨?_,n.exc,n.head,λb o be bT bf q=>n.keep b o be (by simp) bf ((oth b (λz=>bT (by rw[z]))).trans q),λb o bf q=>?_⟩
  ·have z:=n.new
   by_cases q:T2=T
   ·subst q;exfalso;have z2:=Heap.get?_update_self (Obj.mapFields (·.setIfInBounds 3 Value.none)) g (Obj.isFreed_of_fields (Obj.data_mapFields dT _))
    rw[z]at z2;cases z2
   ·rw[oth T2 q]at z;exact z
  ·obtain⟨_,o',ho',nf⟩:=hl.mem bf;have:o'=o:=Option.some.inj (ho'.symm.trans q);subst this;exact n.slot b _ bf ((oth b (nrec b _ q nf)).trans q)
theorem we{e T:Addr}{oe oT:Obj}{vs ts:Array Value}{fl:Value}{Q:Unit→Shared→Prop}(he:s.heap.get? e=some oe)(hd:oe.data=.fields vs)(h1:vs[1]?=some (.ref T))(hT:s.heap.get? T=some oT)(dT:oT.data=.fields ts)
  (h3:ts[3]?=some fl)
  (hQ:∀h',(∀b o,b≠T→s.heap.get? b=some o→h'.get? b=some o)→(∃oT ts,h'.get? T=some oT∧oT.data=.fields ts∧ts[3]?=some Value.none)→Q () {s with heap:=h'}):wpAny M A (setFlight (.ref e) none) Q E s:=by
 unfold setFlight;refine wpAny_bind (wpAny_field he hd h1 ?_);rw[if_pos (show(Value.ref T !=Value.none)=true from by simp)]
 have sz:=(Array.getElem?_eq_some_iff.mp h3).1;refine wpAny_setField hT dT sz (hQ _ (λb o ne q=>(Heap.get?_update_other _ _ (Ne.symm ne)).trans q) ?_);exact⟨_,_,Heap.get?_update_self _ hT (Obj.isFreed_of_fields (Obj.data_mapFields dT _)),Obj.data_mapFields dT _,by simp[sz]⟩
theorem BH{vs:Array Value}{h:Heap}{e:Addr}{T:Option Addr}(x:Head h e vs T):1<vs.size:=by
 cases T with
 |none=>exact(Array.getElem?_eq_some_iff.mp (show vs[1]?=some Value.none from x)).1
 |some T=>exact(Array.getElem?_eq_some_iff.mp x.1).1
theorem A5{base:Heap}{env:Env}{outer:List Env}{L e:Addr}{oe:Obj}{vs:Array Value}{T:Option Addr}{Q:Unit→Shared→Prop}(hfr:A.frames=some (env::outer))(hl:s.heap.FunFrames base (env::outer))
  (hf:env.frame=some L)(he:s.heap.get? e=some oe)(hd:oe.data=.fields vs)(hT:Head s.heap e vs T)
  (hQ:∀h' T',x5 (env::outer) e oe T T' Value.none s.heap h'→Q () {s with heap:=h'}):
  wpAny M A (noteFrame (.ref e) env) (λ_ s2=>wpAny M A (setFlight (.ref e) none) Q E s2) E s:=by
 refine Iz hfr hl hf he hd hT λh1 T1 n=>?_;obtain⟨oT,ts,g,dT,h3⟩:=n.head;have sz:=BH hT;have hd1:=Obj.data_mapFields hd (·.setIfInBounds 1 (Value.ref T1))
 refine we n.exc hd1 (by simp[sz]) g dT h3 λh2 kp hd2=>?_
 have nT:∀b o,s.heap.get? b=some o→b≠T1:=λb o q z=>by
  rw[z,n.new]at q;cases q
 refine hQ h2 T1 ⟨n.new,kp e _ (nT e _ he) n.exc,hd2,λb o be bT bf q=>kp b o (nT b o q) (n.keep b o be bT bf q),λb o bf q=>?_⟩;obtain⟨sl,q1⟩:=n.slot b o bf q;exact⟨sl,kp b _ (nT b o q) q1⟩
theorem C0{base:Heap}{env:Env}{outer:List Env}{L e:Addr}{oe:Obj}{vs:Array Value}{T:Option Addr}{Q:Unit→Shared→Prop}(hfr:A.frames=some (env::outer))(hl:s.heap.FunFrames base (env::outer))
  (hf:env.frame=some L)(he:s.heap.get? e=some oe)(hd:oe.data=.fields vs)(hT:Head s.heap e vs T)
  (hQ:∀h' T',x5 (env::outer) e oe T T' Value.none s.heap h'→Q () {s with heap:=h'}):wpAny M A (leaving env (.ref e)) Q E s:=by
 unfold leaving;exact wpAny_bind (A5 hfr hl hf he hd hT hQ)
end
abbrev uF(C t:Addr)(od:Option Addr):Obj:={cls:=.ref C,dict:=od,data:=.fields #[.ref t,.none,.none,.none,.bool false,.none]}
section
variable {M:Model}{A:Around}{E:Value→Shared→Prop}{env:Env}
variable {nm q:Str}{C N:Addr}{bs bm:List Value}{hdct:Bool}{sn:List Str}{sub:List Value}{ab:Bool}{col:Option Bool}{dd:Option Addr}{k0 k1 k2 k3 k5:Option Value}{newId:String}
theorem FH{s:Shared}{x:Sem Value}{Q:Flow→Shared→Prop}(hbase:bm.contains (.type "BaseException")=true)(hh:A.handled=none)
  (h:wpAny M A x (λv s1=>∃e t od,v=.ref e∧s1.heap.get? C=some (excClassObj nm q C N bs bm hdct sn sub ab col dd k0 k1 k2 k3 k5 newId)∧s1.heap.get? e=some (uF C t od)∧E (.ref e) s1) E s):
  wpAny M A (raiseStmt env (some x) none) Q E s:=by
 have hc:(Value.ref C::bm).contains (.type "BaseException")=true:=by rw[List.contains_cons,hbase,Bool.or_true]
 unfold raiseStmt;refine wpAny_bind (wpAny_mono h (λv s1 h1=>?_) λ_ _ z=>z);obtain⟨e,t,od,rfl,hC,he,hE⟩:=h1;obtain⟨hp,g,d,tk,os⟩:=s1
 repeat (first|with_reducible refine wpAny_loadPart_at he ?_|with_reducible refine wpAny_loadPart_at hC ?_|(with_reducible refine wpAny_isSubtype_exc hC ?_;rw[hc])|wp_step)
 exact wpAny_raiseNew_none hh hE
end
section
variable {prog:Program}{w:World}{A:Around}{E:Value→Shared→Prop}{s:Shared}{env:Env}
variable {nm q:Str}{C N:Addr}{bs bm:List Value}{hdct:Bool}{sn:List Str}{sub:List Value}{ab:Bool}{col:Option Bool}{dd:Option Addr}{k0 k1 k2 k3 k5:Option Value}{newId:String}
theorem yQ{x:Expr}{pos:Pos}{Q:Flow→Shared→Prop}(hbase:bm.contains (.type "BaseException")=true)(hh:A.handled=none)
  (h:wpAny (model prog w) A (eval x env) (λv s1=>∃e t od,v=.ref e∧s1.heap.get? C=some (excClassObj nm q C N bs bm hdct sn sub ab col dd k0 k1 k2 k3 k5 newId)∧s1.heap.get? e=some (uF C t od)∧E (.ref e) s1) E s):
  wpAny (model prog w) A (exec (.Raise (some x) none pos) env) Q E s:=by
 rw[arm_exec_Raise];refine wpAny_bind (wpAny_standAt ?_);simp only[evalOpt,Option.map];refine FH hbase hh (wpAny_bind (wpAny_mono h (λv s1 h1=>wpAny_bind (wpAny_standAt (wpAny_pure h1))) λ_ _ z=>z))
theorem EF{e:Addr}{t:Expr}{n:Str}{b0:Stmt}{suite:List Stmt}{pos:Pos}{rest:List ExceptHandler}{Q:Flow→Shared→Prop}(hbase:bm.contains (.type "BaseException")=true)
  (h:wpAny (model prog w) (A.mark (some (.ref e))) (eval t env) (λc s1=>c=.ref C∧s1.heap.get? C=some (excClassObj nm q C N bs bm hdct sn sub ab col dd k0 k1 k2 k3 k5 newId)∧(∃oe,s1.heap.get? e=some oe∧oe.cls=.ref C)∧
   wpAny (model prog w) (A.mark (some (.ref e))) (setFlight (.ref e) none) (λ_ s2=>wpAny (model prog w) (A.mark (some (.ref e))) (storeName env n (.ref e)) (λ_ s3=>
    wpAny (model prog w) (A.mark (some (.ref e))) (execs (b0::suite) env) (λf s4=>wpAny (model prog w) A (do bindName env n .none;unbindBehindTheSuite env n pos) (λ_ s5=>Q f s5) E s4) (λ_ _=>False) s3) (λ_ _=>False) s2) (λ_ _=>False) s1) (λ_ _=>False) s):
  wpAny (model prog w) A (handleBy (.ref e) env (.ExceptHandler (some t) (some n) (b0::suite) pos::rest)) Q E s:=by
 refine wpAny_handleBy_cons (codeAny_handlers_test (wpAny_mono h (λc s1 h1=>?_) λ_ _ z=>z.elim)) (by intro z;cases z)
 obtain⟨rfl,hC,⟨oe,he,hcls⟩,hk⟩:=h1;obtain⟨hp,g,d,tk,os⟩:=s1;refine wpAny_excMatches_sub_self hC he hcls hbase (codeAny_handlers_suite_as ?_);exact wpAny_mono hk (λ_ s2 h2=>wpAny_mono h2 (λ_ s3 h3=>wpAny_mono h3 (λ_ _ z=>z) λ_ _ z=>z.elim) λ_ _ z=>z.elim) λ_ _ z=>z.elim
end
end LX
namespace LX
open PySem PySem.W Builtin Builtin.ObjectAttr
structure sJ(K:Frag)(C:Addr)(B newId initId:String)(bm:List Value):Prop where
 base:ExcBaseFacts B newId initId bm
 store:StoreFacts B bm "object.__setattr__" "object"
 attr:ExcAttrBase B bm
 obj:∃nm q N bs sn sub ab col dd k0 k1 k2 k3 k5,K.lookup C=some (excClassObj nm q C N bs bm true sn sub ab col dd k0 k1 k2 k3 k5 newId)∧nsOkIn K N=true
 sa:findIn K (.ref C) "__setattr__"=some (some (.builtin "object.__setattr__"))
 ga:findIn K (.ref C) "__getattribute__"=some (some (.builtin "BaseException.__getattribute__"))
 gh:findIn K (.ref C) "__getattr__"=some none
section
variable {prog:Program}{w:World}{A:Around}{E:Value→Shared→Prop}{s:Shared}{K:Frag}{C x:Addr}{B newId initId:String}{bm:List Value}{name:Str}{v:Value}
theorem sJ.cls(c:sJ K C B newId initId bm):∃cd,clsIn K C=some cd∧cd.mro=.ref C::bm∧cd.hasDict=true:=by
 obtain⟨nm,q,N,bs,sn,sub,ab,col,dd,k0,k1,k2,k3,k5,e,_⟩:=c.obj;exact⟨_,by unfold clsIn;rw[e],rfl,rfl⟩
theorem sJ.sub(c:sJ K C B newId initId bm){T:String}(h:bm.contains (.type T)=true):mroIn K C (.type T)=some true:=by
 obtain⟨cd,h1,h2,_⟩:=c.cls;unfold mroIn;rw[h1,Option.bind_some,h2,List.contains_cons,h,Bool.or_true];rfl
theorem Ky{t:Addr}{Q:Unit→Shared→Prop}(c:sJ K C B newId initId bm)(X:K.In s.heap)(ha:findIn K (.ref C) name=some none)(hx:s.heap.get? x=some (uF C t none))
  (hq:∀h' tk,h'.Ns1 s.heap.objs.size (λy=>if y=name then some v else none)→h'.get? x=some (uF C t (some s.heap.objs.size))→(∀b o,b≠x→s.heap.get? b=some o→h'.get? b=some o)→Q () {s with heap:=h',toks:=tk}):
  wpAny (model prog w) A (setAttr (.ref x) name v) Q E s:=by
 have I:InstAt s.heap x (uF C t none) C none:=⟨hx,rfl,rfl,trivial⟩;have SF:=c.store;obtain⟨cd,h1,h2,h3⟩:=c.cls;refine set_plain X I c.sa ?_;have I':InstAt ({s with toks:=s.toks+1}:Shared).heap x (uF C t none) C none:=I
 have sub:Looks (model prog w) s.heap (isInstance (.ref x) (.type "object")) true:=I.type.andThen (looks_mroIn X (c.sub SF.hasOwner));refine codeAny_call_builtin SF.slot.plain SF.entry (@check_slot (model prog w) _ _ {s with toks:=s.toks+1} "object.__setattr__" "object" "__setattr__" (.ref x) [.str name s.toks,v] [] _ SF.kind SF.split sub
  (SF.args (.ref x) (.str name s.toks) v) ?_)
 have hm:Looks (model prog w) s.heap (mroOf (.ref C)) cd.mro:=(looks_clsIn X h1).andThen .now;rw[osa_eq,refuse_eq];refine wpAny_bind (wpAny_bind (Looks.here (s:={s with toks:=s.toks+1}) I.type (wpAny_bind (Looks.here (s:={s with toks:=s.toks+1}) hm ?_))))
 rw[h2,refuseLoop_ref,SF.passes];refine wpAny_pure (wpAny_bind (Looks.here (s:={s with toks:=s.toks+1}) I.type (wpAny_bind (Looks.here (s:={s with toks:=s.toks+1}) (looks_findIn X ha) (wpAny_bind (wpAny_pure ?_))))))
 show wpAny _ _ (storeInOwnDict (.ref x) (.ref C) (.str name s.toks) name v false) _ _ _;unfold storeInOwnDict ownStreamTells ownDictForStores;refine wpAny_bind (wpAny_pure ?_);rw[if_neg (by simp)]
 refine wpAny_bind ?_;unfold instanceDict;refine wpAny_bind (wpAny_loadPart hx (wpAny_bind (Looks.here (s:={s with toks:=s.toks+1}) (looks_clsIn X h1) ?_)))
 rw[h3];have ne:x≠s.heap.objs.size:=Nat.ne_of_lt (Heap.lt_size hx);have hx1:(s.heap.push emptyDict).get? x=some (uF C t none):=Heap.get?_push_of_some _ hx;refine wpAny_bind (wpAny_alloc' ?_);refine wpAny_bind (wpAny_update' hx1 ?_);refine wpAny_pure (a:=some s.heap.objs.size) ?_;show wpAny _ _ (storeInDict s.heap.objs.size (.str name s.toks) name v) _ _ _;unfold storeInDict newKeyGuard;have gd:((s.heap.push emptyDict).update x λo=>{o with dict:=some s.heap.objs.size}).get? s.heap.objs.size=some emptyDict:=(Heap.get?_update_ne _ _ _ _ ne.symm).trans (Heap.get?_push_at rfl rfl)
 have gn:((s.heap.push emptyDict).update x λo=>{o with dict:=some s.heap.objs.size}).Ns s.heap.objs.size (λ_=>none):=⟨_,#[],_,gd,rfl,(λe he=>absurd he (by simp)),λ_=>rfl⟩
 refine wpAny_bind (wpAny_pure (wpAny_bind (wpAny_nsSet1 (Heap.Ns1.of_empty gn) λh' hn' sb=>?_)));obtain⟨oD,es,ep,gD,dD,cD⟩:=hn'.count (Within.cons name v Within.nil);refine wpAny_bind (wpAny_lookBehind gD (by rw[dD];exact pastItsLine_dict (Nat.le_trans cD (by rw[List.length_cons,List.length_nil,sizeLine_eq];omega))) ?_)
 refine wpAny_pure (hq h' _ hn' ((sb.2 x ne).trans (Heap.get?_update_self _ hx1 rfl)) λb o nb q=>?_);exact(sb.2 b (Nat.ne_of_lt (Heap.lt_size q))).trans ((Heap.get?_update_ne _ _ _ _ nb).trans (Heap.get?_push_of_some _ q))
theorem Kz{ox od:Obj}{expr:Bool}{Q:Value→Shared→Prop}(c:sJ K C B newId initId bm)(X:K.In s.heap)(I:InstAt s.heap x ox C (some od))(ha:findIn K (.ref C) name=some none)(hl:lookIn name od=some (some v))(hv:handedIn v=true)
  (hq:Q v {s with toks:=s.toks+1}):wpAny (model prog w) A (getAttr (.ref x) name expr) Q E s:=by
 have G:=c.attr;obtain⟨cd,h1,h2,h3⟩:=c.cls;have hh:hasDictIn K C=true:=by unfold hasDictIn;rw[h1];exact h3
 have hf:findObj K C (some od) name=some (.value v):=findObj_own hh ha rfl hl;obtain⟨hp,g,d,t,os⟩:=s;have L0:=I.type (M:=model prog w);have L1:=looks_findIn (M:=model prog w) X c.ga;have L2:=looks_findIn (M:=model prog w) X c.gh;have L3:=looks_find (M:=model prog w) X I hf;have sub:Looks (model prog w) hp (isInstance (.ref x) (.type "BaseException")) true:=L0.andThen (looks_mroIn X (c.sub G.hasBase));unfold getAttr getAttrBy;refine wpAny_bind (wpAny_mkText (wpAny_holding (wpAny_bind (L0.at (wpAny_bind (L1.at ?_))))));dsimp only;rw[if_neg (by simp[onTheHeap])]
 unfold getAttrByItsOwn hookBefore;rw[if_pos (by rfl)]
 refine wpAny_bind (L2.at (wpAny_bind (wpAny_attempt (wpAny_holding ?_))));have nx:(expr&&onTheHeap (Value.builtin "BaseException.__getattribute__"))=false:=by cases expr<;>rfl
 unfold callGetattribute boundAndCalled;rw[nx,if_neg (by decide),G.ga.bind]
 refine wpAny_bind (wpAny_pure ?_);have ck:builtinKind "BaseException.__getattribute__"=some .slot:=by decide+kernel
 have sp:splitId "BaseException.__getattribute__"=some ("BaseException","__getattribute__"):=by decide+kernel
 refine wpAny_call (codeAny_call_builtin G.ga.plain F.entry_bexc_ga (@check_slot (model prog w) _ _ ⟨hp,g,d,t+1,os⟩ "BaseException.__getattribute__" "BaseException" "__getattribute__" (.ref x) [.str name t] [] _ ck sp sub (F.args_bexc_ga _ _) ?_));unfold Builtin.«object.__getattribute__»;refine wpAny_bind (wpAny_pure (wpAny_bind (wpAny_pure (wpAny_bind (L0.at (wpAny_bind (L3.at ?_)))))));refine wpAny_pure ?_;show wpAny _ _ (handedOut v) _ _ _;rw[handedOut_of hv];exact wpAny_pure hq
end
end LX
namespace L2
open PySem PySem.Spec PyProof.Rows LX
section
variable {P:Program}{w:World}{H:Hp}{h h':Heap}{a:Addr}{o:HO}{fs ex:List Addr}
theorem lz(x:HOk P w H h)(e:h.get? a=none):H a=none:=by
 cases q:H a with
 |none=>rfl
 |some u=>
  have l:=x.lt q;exfalso;have y:∃ob,h.get? a=some ob:=by
   have z:=x a u q;cases u with
   |lst xs=>obtain⟨_,_,_,_,r⟩:=z;exact⟨_,r⟩
   |tup xs=>obtain⟨_,_,_,r,r',_⟩:=z;exact⟨_,r'⟩
   |dK kvs=>obtain⟨_,_,_,_,r,_,_,r',_⟩:=z;exact⟨_,r'⟩
   |dT kvs=>obtain⟨_,_,_,_,r,_,_,r',_⟩:=z;exact⟨_,r'⟩
   |set S n=>obtain⟨r,_,_,_,r',_⟩:=z;exact⟨_,r'⟩
   |ins C dx fs=>obtain⟨_,_,_,r,_⟩:=z;exact⟨_,r⟩
   |own y=>exact z
   |xd fs=>obtain⟨_,⟨r,_,_,r',_⟩,_⟩:=z;exact⟨_,r'⟩
   |rng lo hi=>obtain⟨_,_,_,r⟩:=z;exact⟨_,r⟩
   |frz ob u=>exact⟨_,z.1⟩
   |tbl ps=>exact⟨_,show h.get? a=some _ from z⟩
   |met f y=>exact⟨_,show h.get? a=some _ from z⟩
   |ext p=>exact z.2.1
  obtain⟨ob,r⟩:=y;rw[e]at r;cases r
theorem E9(k:∀b u,h.get? b=some u→h'.get? b=some u)(hn:h.get? a=none)(hN:H a=none):Un fs ex H (upd H a o) h h' where
 keep:=λb u q _ _ _=>k b u q
 slot:=λb u q _ _ _=>⟨u.slots,k b u q⟩
 free:=λb u q n _=>by
  rw[ae (λz=>by rw[z,hn]at q;cases q)]
  exact n
 there:=λb u q _=>⟨u,k b u q⟩
 qz:=λb xs q=>by rw[ae (aw q hN)];exact q
 oJ:=λb u xs q=>by rw[ae (aw q hN)];exact q
 qB:=λb ps q=>⟨#[],by rw[ae (aw q hN),q];simp⟩
theorem zX(x:HOk P w H h)(k:∀b u,h.get? b=some u→h'.get? b=some u)(hn:H a=none)(new:bM P w (upd H a o) h' a o):HOk P w (upd H a o) h':=λb u e=>by
 by_cases hb:b=a
 ·subst hb;rw[af]at e;cases e;exact new
 ·rw[ae hb]at e;exact(x b u e).rn (λc v _ q=>k c v q) (λc q=>by rw[ae (aw q hn)];exact q) λc xs q=>by rw[ae (aw q hn)];exact q
def del(H:Hp)(e:Addr):Hp:=λb=>if b=e then none else H b
theorem Ae:del H a a=none:=by unfold del;rw[if_pos rfl]
theorem tU{b:Addr}(n:b≠a):del H a b=H b:=by unfold del;rw[if_neg n]
theorem Gp{p:Heap→Prop}(x:HOk P w H h)(e:H a=some (.ext p)):HOk P w (del H a) h:=λb u q=>by
 have nb:b≠a:=λz=>by subst z;rw[Ae]at q;cases q
 rw[tU nb]at q;exact(x b u q).rn (λ_ _ _ r=>r) (λc r=>by rw[tU (aF r e (by intro z;cases z))];exact r) λc xs r=>by rw[tU (aF r e (by intro z;cases z))];exact r
end
section
variable {X:Cx}{pins:List (Addr×Obj)}{σ:St}{H:Hp}{s:Shared}{h':Heap}{a:Addr}{o:HO}
theorem ED{t':Nat}(I:Inv X pins σ H s)(k:∀b u,s.heap.get? b=some u→h'.get? b=some u)(hn:s.heap.get? a=none)(new:bM X.prog X.w (upd H a o) h' a o):Inv X pins σ (upd H a o) {s with heap:=h',toks:=t'}:=
 I.un (E9 k hn (lz I.hok hn)) (zX I.hok k (lz I.hok hn) new)
theorem Gk{p:Heap→Prop}(I:Inv X pins σ H s)(e:H a=some (.ext p)):Inv X pins σ (del H a) s:=by
 have nd:∀b u,H b=some u→u≠.ext p→del H a b=some u:=λb u q n=>by rw[tU (aF q e n)];exact q
 have nn:∀b,H b=none→del H a b=none:=λb q=>by
  unfold del
  split
  ·rfl
  ·exact q
 refine⟨I.ok,I.os,I.bare,⟨I.base.keep,I.base.slot,λb o q n x=>nn b (I.base.free b o q n x),I.base.there,λb xs q=>nd b _ (I.base.qz b xs q) (by intro z;cases z),λb o u q=>nd b _ (I.base.oJ b o u q) (by intro z;cases z),λb ps q=>?_⟩,
  I.loc,I.cell,nn _ I.free,λx c q=>nn _ (I.gu x c q),λp hp=>let⟨r1,r2,r3⟩:=I.pin p hp;⟨r1,nn _ r2,r3⟩,Gp I.hok e,I.len⟩
 obtain⟨m,z⟩:=I.base.qB b ps q;exact⟨m,nd b _ z (by intro y;cases y)⟩
end
def XO(C t e:Addr)(od:Option Addr):HO:=.ext λh=>h.get? e=some (uF C t od)
def XR(C e dx:Addr):HO:=.ext λh=>∃oe vs,h.get? e=some oe∧oe.cls=.ref C∧oe.dict=some dx∧oe.data=.fields vs
theorem GF{P:Program}{w:World}{H:Hp}{h:Heap}{C t e:Addr}{od:Option Addr}(q:h.get? e=some (uF C t od)):bM P w H h e (XO C t e od):=⟨q,⟨_,q⟩,λ_ _ r k=>k _ r⟩
theorem Jm{P:Program}{w:World}{H:Hp}{h:Heap}{C e dx:Addr}{oe:Obj}{vs:Array Value}(q:h.get? e=some oe)(q1:oe.cls=.ref C)(q2:oe.dict=some dx)(q3:oe.data=.fields vs):bM P w H h e (XR C e dx):=
 ⟨⟨oe,vs,q,q1,q2,q3⟩,⟨_,q⟩,λ_ _⟨oe,vs,r,r1,r2,r3⟩k=>⟨oe,vs,k _ r,r1,r2,r3⟩⟩
structure Fly(h:Heap)(H:Hp)(e C dx:Addr)(T:Option Addr):Prop where
 obj:∃oe vs,h.get? e=some oe∧oe.cls=.ref C∧oe.dict=some dx∧oe.data=.fields vs∧Head h e vs T
 un:H e=none
 unT:∀b,T=some b→H b=none
def CXx(P:Program)(w:World):CXT:=λouter H s E ev s'=>∃(e C dx T:Addr)(H':Hp),ev=.ref e∧s'.os=s.os∧AllBare s'.gens∧Un (frs outer) [] H H' s.heap s'.heap∧HOk P w H' s'.heap∧
 Fly s'.heap H' e C dx (some T)∧s.heap.get? e=none∧s.heap.get? T=none∧E (.ref C) (some dx) H'
theorem xu(f:Array Value→Array Value)(o:Obj):(o.mapFields f).dict=o.dict:=by
 obtain⟨c,d,dt,sl⟩:=o;cases dt<;>rfl
theorem CT{l:List Env}{e C dx T':Addr}{oe:Obj}{vs:Array Value}{T:Option Addr}{h h':Heap}{H:Hp}(n:x5 l e oe T T' Value.none h h')(he:h.get? e=some oe)(hc:oe.cls=.ref C)(hx:oe.dict=some dx)(hd:oe.data=.fields vs)
  (hT:Head h e vs T)(hu:H e=none)(hT':H T'=none):Fly h' H e C dx (some T'):=by
 refine⟨⟨_,_,n.exc,(Obj.cls_mapFields _ _).trans hc,(xu _ _).trans hx,Obj.data_mapFields hd _,?_,?_,n.head⟩,hu,λb q=>by cases q;exact hT'⟩
 ·have:=BH hT;simp[this]
 ·intro z;have:=n.new;rw[z,he]at this;cases this
theorem CS{P:Program}{w:World}{l:List Env}{e T':Addr}{oe:Obj}{T:Option Addr}{fl:Value}{h h':Heap}{H:Hp}(n:x5 l e oe T T' fl h h')(x:HOk P w H h)(hu:H e=none)(hT:∀b,T=some b→H b=none)
  (hf:∀b∈frA l,H b=none):HOk P w H h':=λb u q=>by
 have nn:∀c v,H c=some v→c≠e∧T≠some c∧c∉frA l:=λc v r=>⟨λz=>(by rw[z,hu]at r;cases r),λz=>(by rw[hT c z]at r;cases r),λz=>(by rw[hf c z]at r;cases r)⟩
 refine(x b u q).rn (λc v hc r=>?_) (λ_ r=>r) λ_ _ r=>r;have y:∃v,H c=some v:=by
  rcases hc with rfl|hc
  ·exact⟨_,q⟩
  ·exact⟨_,hc⟩
 obtain⟨v',y⟩:=y;obtain⟨n1,n2,n3⟩:=nn c v' y;exact n.keep c v n1 n2 n3 r
section
variable {X:Cx}{pins:List (Addr×Obj)}{σ:St}{H:Hp}{s:Shared}
theorem eS(I:Inv X pins σ H s)(hex:X.ex=[]){a:Addr}(n:s.heap.get? a=none):X.s_0.heap.get? a=none:=by
 cases q:X.s_0.heap.get? a with
 |none=>rfl
 |some o=>
  obtain⟨o',r⟩:=I.base.there a o q (by rw[hex];simp)
  rw[n]at r;cases r
theorem zT{E:XK}{E':Value→Shared→Prop}{e C dx:Addr}{T:Option Addr}(I:Inv X pins σ H s)(hex:X.ex=[])(hst:X.stack=X.env::X.outer)(hfr:X.env.frame=some X.env.locals)(F:Fly s.heap H e C dx T)
  (f1:X.s_0.heap.get? e=none)(f2:∀b,T=some b→X.s_0.heap.get? b=none)(hE:E (.ref C) (some dx) H):
  wpAny (model X.prog X.w) X.A (leaving X.env (.ref e)) (λ_ s''=>CXx X.prog X.w X.outer X.H_0 X.s_0 E (.ref e) s'') E' s:=by
 obtain⟨⟨oe,vs,he,hc,hx,hd,hT⟩,hu,hTu⟩:=F;refine C0 (base:=X.base) (by rw[I.ok.frames,hst]) (by rw[←hst];exact I.stack) hfr he hd hT λh' T' n=>?_
 have hT':H T'=none:=lz I.hok n.new;have frs_eq:frA (X.env::X.outer)=X.env.locals::X.fs:=by
  show List.filterMap _ (X.env::X.outer)=_;rw[List.filterMap_cons,hfr];rfl
 have ne0:∀b o,X.s_0.heap.get? b=some o→b≠e∧T≠some b∧b≠X.env.locals:=λb o q=>
  ⟨λz=>(by rw[z,f1]at q;cases q),λz=>(by rw[f2 b z]at q;cases q),Nat.ne_of_lt (Nat.lt_of_lt_of_le (Heap.lt_size q) I.ok.above)⟩
 have nx:∀b:Addr,b∉X.ex:=λb=>by rw[hex];simp
 have kp:∀b o o',X.s_0.heap.get? b=some o→b∉X.fs→s.heap.get? b=some o'→h'.get? b=some o':=λb o o' q nf r=>by
  obtain⟨n1,n2,n3⟩:=ne0 b o q;refine n.keep b o' n1 n2 ?_ r;rw[frs_eq];intro z;rcases List.mem_cons.mp z with z|z
  ·exact n3 z
  ·exact nf z
 have sl:∀b o',b∈X.fs→s.heap.get? b=some o'→∃sl,h'.get? b=some {o' with slots:=sl}:=λb o' hb r=>n.slot b o' (by rw[frs_eq];exact List.mem_cons_of_mem _ hb) r
 refine⟨e,C,dx,T',H,rfl,I.os,I.bare,⟨λb o q n0 nf _=>kp b o o q nf (I.base.keep b o q n0 nf (nx b)),λb o q n0 hb _=>?_,λb o q n0 _=>I.base.free b o q n0 (nx b),λb o q _=>?_,I.base.qz,I.base.oJ,I.base.qB⟩,
  CS n I.hok hu hTu (λb hb=>I.uS b (by rw[hst];exact hb)),CT n he hc hx hd hT hu hT',f1,eS I hex n.new,hE⟩
 ·obtain⟨sl1,r1⟩:=I.base.slot b o q n0 hb (nx b);obtain⟨sl2,r2⟩:=sl b _ hb r1;exact⟨sl2,r2⟩
 ·obtain⟨o',r⟩:=I.base.there b o q (nx b)
  by_cases hb:b∈X.fs
  ·obtain⟨sl2,r2⟩:=sl b _ hb r;exact⟨_,r2⟩
  ·exact⟨o',kp b o o' q hb r⟩
end
section
variable {P:Program}{w:World}{K:PySem.W.Frag}{mg:Str→Option Value}{base:Heap}{N:List Str}{qual:Str}{sc:Scope}{f:Addr}{cd:Value}{A:Around}{outer:List Env}{s0:Shared}{H0:Hp}{E:XK}
theorem aJ:Passes (CXx P w) (aM (CXx P w) P w K mg base N qual sc f cd A outer s0 H0 E) E:=by
 rintro pins σ H s ev s' I ⟨e,C,dx,T,H',rfl,os,bare,un,hok,F,f1,f2,hE⟩;have I':=I.Co (ch:=[]) os un hok bare (λ_ z=>nomatch z);exact zT (E':=_) I' rfl rfl rfl F (eS I rfl f1) (λb z=>by cases z;exact eS I rfl f2) hE
theorem CP{X:Cx}:Passes (CXx P w) X (λ_ _ _=>False):=by
 rintro pins σ H s ev s' I ⟨e,C,dx,T,H',rfl,os,bare,un,hok,F,f1,f2,hE⟩;exact hE.elim
def Raises(X:Cx)(E:XK):Prop:=∀(pins:List (Addr×Obj))(σ:St)(H:Hp)(s:Shared)(e C t dx:Addr),Inv X pins σ H s→X.s_0.heap.get? e=none→H e=some (XO C t e (some dx))→E (.ref C) (some dx) (del H e)→X.xe (.ref e) s
theorem oZ:Raises (aM (CXx P w) P w K mg base N qual sc f cd A outer s0 H0 E) E:=by
 intro pins σ H s e C t dx I f1 he hE;have z:bM _ _ H s.heap e (XO C t e (some dx)):=I.hok e _ he;have q:s.heap.get? e=some (uF C t (some dx)):=z.1;exact zT (E':=_) (T:=none) (Gk I he) rfl rfl rfl ⟨⟨_,_,q,rfl,rfl,rfl,rfl⟩,Ae,λb z=>(by cases z)⟩ f1 (λb z=>(by cases z)) hE
end
section
variable {X:Cx}{pins:List (Addr×Obj)}{σ:St}{H:Hp}{s:Shared}{h':Heap}
theorem sg{t':Nat}(Z:Addr→Prop)(I:Inv X pins σ H s)(hex:X.ex=[])(k:∀b o,¬Z b→b∉frs X.stack→s.heap.get? b=some o→h'.get? b=some o)
  (sl:∀b o,b∈frs X.stack→s.heap.get? b=some o→∃sl,h'.get? b=some {o with slots:=sl})(z0:∀b,Z b→X.s_0.heap.get? b=none)(zH:∀b,Z b→H b=none)
  (zd:∀b o,Z b→s.heap.get? b=some o→∃vs,o.data=.fields vs)(zp:∀p∈X.pn++pins,¬Z p.1):Inv X pins σ H {s with heap:=h',toks:=t'}:=by
 have nx:∀b:Addr,b∉X.ex:=λb=>by rw[hex];simp
 have any:∀b o,¬Z b→s.heap.get? b=some o→∃sl,h'.get? b=some {o with slots:=sl}:=λb o nz q=>by
  by_cases hb:b∈frs X.stack
  ·exact sl b o hb q
  ·exact⟨o.slots,k b o nz hb q⟩
 have nZ:∀b o,X.s_0.heap.get? b=some o→¬Z b:=λb o q z=>by rw[z0 b z]at q;cases q
 have nst:∀b,b≠X.env.locals→b∉X.fs→b∉frs X.stack:=λb n1 n2 z=>by
  rcases List.mem_cons.mp (I.yb b z)with r|r
  ·exact n1 r
  ·exact n2 r
 have neL:∀b o,X.s_0.heap.get? b=some o→b≠X.env.locals:=λb o e=>Nat.ne_of_lt (Nat.lt_of_lt_of_le (Heap.lt_size e) I.ok.above);have cellK:∀x c,X.env.cells.lookup x=some c→∀v,s.heap.IsCell c v→h'.IsCell c v:=λx c e v⟨o,ho,hd⟩=>by
  have nz:¬Z c:=λz=>by
   obtain⟨vs,r⟩:=zd c o z ho;rw[hd]at r;cases r
  obtain⟨sl',r⟩:=any c o nz ho;exact⟨_,r,hd⟩
 refine⟨I.ok,I.os,I.bare,⟨λb o q n nf _=>k b o (nZ b o q) (nst b (neL b o q) nf) (I.base.keep b o q n nf (nx b)),λb o q n hf _=>?_,λb o q n _=>I.base.free b o q n (nx b),λb o q _=>?_,I.base.qz,I.base.oJ,I.base.qB⟩,?_,λx c e=>?_,I.free,I.gu,λp hp=>?_,λb u q=>?_,I.len⟩
 ·obtain⟨s1,r1⟩:=I.base.slot b o q n hf (nx b);obtain⟨s2,r2⟩:=any b _ (nZ b o q) r1;exact⟨s2,r2⟩
 ·obtain⟨o',r⟩:=I.base.there b o q (nx b);obtain⟨s2,r2⟩:=any b _ (nZ b o q) r;exact⟨_,r2⟩
 ·obtain⟨m,⟨o,es,ep,ho,hd,r⟩,hl⟩:=I.loc;have nz:¬Z X.env.locals:=λz=>by
   obtain⟨vs,r'⟩:=zd _ o z ho;rw[hd]at r';cases r'
  obtain⟨s2,r2⟩:=any _ o nz ho;refine⟨m,⟨_,es,ep,r2,hd,r⟩,λi x v e1 e2 e3=>?_⟩;obtain⟨u,ru,l⟩:=hl i x v e1 e2 e3;refine⟨u,ru,?_⟩;rcases l with l|⟨kk,c,e,z⟩
  ·exact .inl l
  ·exact .inr ⟨kk,c,e,cellK x c e _ z⟩
 ·obtain⟨v,z⟩:=I.cell x c e;exact⟨v,cellK x c e v z⟩
 ·obtain⟨r1,r2,r3,r4,r5⟩:=I.pin p hp;exact⟨k p.1 p.2 (zp p hp) (nst p.1 r3 r4) r1,r2,r3,r4,r5⟩
 ·refine(I.hok b u q).rn (λc v hc r=>?_) (λ_ r=>r) λ_ _ r=>r;have y:∃u',H c=some u':=by
   rcases hc with rfl|hc
   ·exact⟨_,q⟩
   ·exact⟨_,hc⟩
  obtain⟨u',y⟩:=y;exact k c v (λz=>by rw[zH c z]at y;cases y) (λz=>by rw[I.uS c z]at y;cases y) r
theorem C4{e:Addr}{o:HO}(I:Inv X pins σ H s)(hn:H e=none)(f0:X.s_0.heap.get? e=none)(hd:∃oe vs,s.heap.get? e=some oe∧oe.data=.fields vs)(hp:∀p∈X.pn++pins,p.1≠e)(new:bM X.prog X.w (upd H e o) s.heap e o):
  Inv X pins σ (upd H e o) s:=by
 obtain⟨oe,vs,he,hd⟩:=hd;refine⟨I.ok,I.os,I.bare,⟨I.base.keep,I.base.slot,λb o q n x=>?_,I.base.there,λb xs q=>?_,λb o u q=>?_,λb ps q=>?_⟩,I.loc,I.cell,?_,λx c q=>?_,λp h=>?_,zX I.hok (λ_ _ r=>r) hn new,I.len⟩
 ·rw[ae (λz=>by rw[z,f0]at q;cases q)]
  exact I.base.free b o q n x
 ·have r:=I.base.qz b xs q;rw[ae (aw r hn)];exact r
 ·have r:=I.base.oJ b o u q;rw[ae (aw r hn)];exact r
 ·obtain⟨m,r⟩:=I.base.qB b ps q;exact⟨m,by rw[ae (aw r hn)];exact r⟩
 ·rw[ae]
  ·exact I.free
  ·intro z;obtain⟨m,⟨o,es,ep,ho,hd',_⟩,_⟩:=I.loc;rw[z,he]at ho;cases ho;rw[hd]at hd';cases hd'
 ·rw[ae]
  ·exact I.gu x c q
  ·intro z;obtain⟨v,o,ho,hd'⟩:=I.cell x c q;rw[z,he]at ho;cases ho;rw[hd]at hd';cases hd'
 ·obtain⟨r1,r2,r3⟩:=I.pin p h;exact⟨r1,by rw[ae (hp p h)];exact r2,r3⟩
theorem C3{t':Nat}{i:Nat}{n:Str}{v:Option Value}{m:Str→Option Value}(I:Inv X pins σ H s)(hN:X.N.Nodup)(hi:X.N[i]?=some n)(hm:s.heap.Ns X.env.locals m)
  (hn:h'.Ns X.env.locals (λx=>if x=n then v else m x))(hs:Heap.SameBut X.env.locals s.heap h')(hl:X.env.kindOf n=some .local):Inv X pins (σ.set i none) H {s with heap:=h',toks:=t'}:=by
 have ne0:∀b o,X.s_0.heap.get? b=some o→b≠X.env.locals:=λb o e=>Nat.ne_of_lt (Nat.lt_of_lt_of_le (Heap.lt_size e) I.ok.above);refine⟨I.ok,I.os,I.bare,⟨λb o q n0 nf x=>(hs.2 b (ne0 b o q)).trans (I.base.keep b o q n0 nf x),λb o q n0 hf x=>?_,I.base.free,λb o q x=>?_,I.base.qz,I.base.oJ,I.base.qB⟩,?_,λx c e=>?_,I.free,I.gu,λp hp=>?_,λb u q=>?_,by rw[List.length_set];exact I.len⟩
 ·obtain⟨sl,r⟩:=I.base.slot b o q n0 hf x;exact⟨sl,(hs.2 b (ne0 b o q)).trans r⟩
 ·obtain⟨o',r⟩:=I.base.there b o q x;exact⟨o',(hs.2 b (ne0 b o q)).trans r⟩
 ·obtain⟨m1,hm1,hl1⟩:=I.loc;have em:m1=m:=by
   obtain⟨o1,es1,ep1,g1,d1,_,f1⟩:=hm1;obtain⟨o2,es2,ep2,g2,d2,_,f2⟩:=hm;rw[g1]at g2;cases g2;rw[d1]at d2;cases d2
   funext y
   rw[←f1 y,←f2 y]
  subst em;refine⟨_,hn,λj y v' e1 e2 e3=>?_⟩;have hij:j≠i:=λz=>by
   subst z;rw[List.getElem?_set]at e2;simp at e2
  rw[List.getElem?_set_ne (Ne.symm hij)]at e2;obtain⟨u,ru,l⟩:=hl1 j y v' e1 e2 e3;refine⟨u,ru,?_⟩;rcases l with⟨kk,l⟩|⟨kk,c,e,z⟩
  ·refine .inl ⟨kk,?_⟩;have ny:y≠n:=λz=>hij (rQ hN e1 (z▸hi));show(if y=n then v else m1 y)=some u
   rw[if_neg ny];exact l
  ·exact .inr ⟨kk,c,e,z.sameBut hs (I.cne y c e)⟩
 ·obtain⟨w',z⟩:=I.cell x c e;exact⟨w',z.sameBut hs (I.cne x c e)⟩
 ·obtain⟨r1,r2,r3,r4⟩:=I.pin p hp;exact⟨(hs.2 p.1 r3).trans r1,r2,r3,r4⟩
 ·refine(I.hok b u q).rn (λc v hc r=>(hs.2 c ?_).trans r) (λ_ r=>r) λ_ _ r=>r;rintro rfl;rcases hc with rfl|hc
  ·rw[I.free]at q;cases q
  ·rw[I.free]at hc;cases hc
end
section
variable {X:Cx}{C:Addr}{B newId initId:String}{bm:List Value}{f:Str}{o e value:Expr}{pos pos' np cpos apos:Pos}{ta tv te:TE}{t:TA}{es:List Expr}{x:Str}
def JN(K:PySem.W.Frag)(C:Addr)(ta tv:TE)(f:Str):TS:=λD σ H=>tv σ H λy H1=>ta σ H1 λx H2=>∃a t,x=.ref a∧H2 a=some (XO C t a none)∧PySem.W.findIn K (.ref C) f=some none∧
 ∀dx,H2 dx=none→D.nx σ (upd (upd H2 dx (.xd [(f,y)])) a (XO C t a (some dx)))
theorem FK(c:sJ X.K C B newId initId bm)(ha:PE X o ta)(hv:PE X value tv)(hs:swapsWith value (some (.Attribute o f pos')) pos.line X.env=pure false):PS X (.Assign [.Attribute o f pos'] value pos) (JN X.K C ta tv f):=by
 intro pins s σ H D I h;refine plainObj_wpAny_Assign_Attribute (thn (hv pins s σ H _ I h) λu s1⟨y,H1,I1,ry,q⟩=>thn (ha pins s1 σ H1 _ I1 q) λov s2⟨x,H2,I2,rx,a,t,ex,ea,n,q2⟩=>?_) hs;subst ex;obtain rfl:ov=Value.ref a:=rx;have g:s2.heap.get? a=some (uF C t none):=(show bM _ _ H2 s2.heap a (XO C t a none)from I2.hok a _ ea).1;refine Ky c I2.kIn n g λh' tk hns hx hk=>⟨σ,_,?_,q2 s2.heap.objs.size (I2.hok.fresh (Nat.le_refl _))⟩;have hn:H2 s2.heap.objs.size=none:=I2.hok.fresh (Nat.le_refl _);have ne:a≠s2.heap.objs.size:=Nat.ne_of_lt (Heap.lt_size g);have na:∀b u,H2 b=some u→(∀p,u≠.ext p)→b≠a∧b≠s2.heap.objs.size:=λb u q nu=>⟨aF q ea (nu _),aw q hn⟩;have up:∀b u,H2 b=some u→(∀p,u≠.ext p)→upd (upd H2 s2.heap.objs.size (.xd [(f,y)])) a (XO C t a (some s2.heap.objs.size)) b=some u:=λb u q nu=>by
  rw[ae (na b u q nu).1,ae (na b u q nu).2];exact q
 refine I2.un (t':=tk) ⟨λb ob q n0 _ _=>hk b ob (λz=>by rw[z,ea]at n0;cases n0) q,λb ob q n0 _ _=>⟨ob.slots,hk b ob (λz=>by rw[z,ea]at n0;cases n0) q⟩,λb ob q n0 _=>?_,λb ob q _=>?_,
  λb xs q=>up b _ q (λp z=>by cases z),λb ob u q=>up b _ q (λp z=>by cases z),λb ps q=>⟨#[],by rw[up b _ q (λp z=>by cases z)];simp⟩⟩ λb u q=>?_
 ·rw[ae (λz=>by rw[z,ea]at n0;cases n0),ae (Nat.ne_of_lt (Heap.lt_size q))]
  exact n0
 ·by_cases z:b=a
  ·subst z;exact⟨_,hx⟩
  ·exact⟨_,hk b ob z q⟩
 ·by_cases z:b=a
  ·subst z;rw[af]at q;cases q;exact GF hx
  ·rw[ae z]at q
   by_cases z2:b=s2.heap.objs.size
   ·subst z2;rw[af]at q;cases q;refine⟨_,hns,λg'=>?_⟩;show lJ ([(f,y)].lookup g') (if g'=f then some u else none)
    by_cases z3:g'=f
    ·subst z3;rw[if_pos rfl,List.lookup_cons_self];exact ry
    ·have nb:(g'==f)=false:=beq_eq_false_iff_ne.mpr z3;rw[if_neg z3];simp only[List.lookup,nb];exact True.intro
   ·rw[ae z2]at q;refine(I2.hok b u q).rn (λc' v' hc r=>hk c' v' ?_ r) (λc' r=>up c' _ r λp z=>by cases z) λc' xs r=>up c' _ r λp z=>by cases z
    rintro rfl;rcases hc with rfl|hc
    ·exact z rfl
    ·rw[ea]at hc;cases hc
def GI(K:PySem.W.Frag)(C:Addr)(ta:TE)(f:Str):TE:=λσ H Q=>ta σ H λx H1=>∃a dx fs v,x=.ref a∧H1 a=some (XR C a dx)∧H1 dx=some (.xd fs)∧PySem.W.findIn K (.ref C) f=some none∧fs.lookup f=some v∧Q v H1
theorem FQ(c:sJ X.K C B newId initId bm)(he:PE X e ta)(hb:attributeBase e f X.env (eval e X.env)=eval e X.env):PE X (.Attribute e f pos) (GI X.K C ta f):=by
 intro pins s σ H Q I h;refine Cp hb (thn (he pins s σ H _ I h) λu s1⟨x,H1,I1,rx,a,dx,fs,v,ex,ea,ed,n,l,q⟩=>?_);subst ex;obtain rfl:u=Value.ref a:=rx;obtain⟨oe,vs,g,gc,gd,gf⟩:=(show bM _ _ H1 s1.heap a (XR C a dx)from I1.hok a _ ea).1;obtain⟨mA,ns,rel⟩:=(show bM _ _ H1 s1.heap dx (.xd fs)from I1.hok dx _ ed);obtain⟨od,god,hl⟩:=xC ns;obtain⟨u',hu,ru⟩:=lJ.some_of (v:=v) (o:=mA f) (by rw[←l];exact rel f)
 have J:PySem.W.InstAt s1.heap a oe C (some od):=⟨g,gc,by unfold PySem.W.notCls;rw[gf],by rw[gd];exact god⟩
 exact Kz c I1.kIn J n (by rw[hl,hu]) (xI ru) ⟨v,H1,I1.tok _,ru,q⟩
end
theorem AQ{K:PySem.W.Frag}{h:Heap}{N:Addr}{mg:Str→Option Value}{n:Str}{v:Value}(X:K.In h)(G:h.Ns N mg)(e:PySem.W.nsIn K N n=some (some v)):mg n=some v:=by
 obtain⟨o,es,ep,ho,hd,_,hf⟩:=G;unfold PySem.W.nsIn at e
 split at e
 ·rename_i c d es' n' sl q;have z:=X _ _ q;rw[ho]at z;cases z;cases hd
  split at e
  ·rename_i en he;cases e;rw[←hf];unfold nsFind findBy;rw[←Array.find?_toList,he];rfl
  ·split at e<;>cases e
 ·cases e
structure E5(K:PySem.W.Frag)(C f:Addr)(newId:String)(bm:List Value):Prop where
 obj:∃nm q N bs sn sub ab col dd k0 k1 k2 k3 k5,K.lookup C=some (excClassObj nm q C N bs bm true sn sub ab col dd k0 k1 k2 k3 k5 newId)∧PySem.W.nsOkIn K N=true∧PySem.W.nsIn K N "__init__"=some (some (.ref f))
 fn:PySem.W.isFn K (.ref f)=true
 kp:PySem.W.keepIn K (.ref C)=true
section
variable {X:Cx}{C fI:Addr}{B newId initId:String}{bm:List Value}{k:Nat}{fd:FuncData}{ps:List Str}{sp:Sp}{E:XK}{x:Str}{np cpos pos:Pos}{e:Expr}{es:List Expr}{t:TA}
def Az(C:Addr)(sp:Sp)(E:XK)(t:TA):TS:=λ_ σ H=>t σ H λvs H1=>vs.length≤sizeLine∧∀a tt,H1 a=none→sp (.ref a::vs) (upd H1 a (XO C tt a none))
 (λv H2=>v=.non∧∃dx,H2 a=some (XO C tt a (some dx))∧E (.ref C) (some dx) (del H2 a)) (λ_ _ _=>False)
theorem D4(c:sJ X.K C B newId initId bm)(ci:E5 X.K C fI newId bm)(F:lM X.prog X.w X.K X.mg X.base (CXx X.prog X.w) k fI fd ps sp)(hr:cJ (k+1) X.A)(hg:Gl X x)(hm:X.mg x=some (.ref C))(hb:Binds X.K fd ps [])
  (hcalm:X.calm=true)(hex:X.ex=[])(hR:Raises X E)(ha:PA X (e::es) t)(hdb:(x==("__debug__":Str))=false:=by decide)(he:starEach (e::es) X.env=(false,eval e X.env)::starEach es X.env:=by rfl)
  (hpl:(backTo cpos (starEach es X.env)).any (·.1)=false:=by rfl):PS X (.Raise (some (.Call (.Name x np) (e::es) [] cpos)) none pos) (Az C sp E t):=by
 intro pins s σ H D I h;obtain⟨nm,q,N,bs,sn,sub,ab,col,dd,k0,k1,k2,k3,k5,hK,hok,hin⟩:=ci.obj;refine yQ (nm:=nm) (q:=q) (C:=C) (N:=N) (bs:=bs) (bm:=bm) (hdct:=true) (sn:=sn) (sub:=sub) (ab:=ab) (col:=col) (dd:=dd) (k0:=k0) (k1:=k1) (k2:=k2) (k3:=k3) (k5:=k5) (newId:=newId) c.base.hasBase (I.ok.hd hcalm) ?_;refine wpAny_Call_Name_kw (km I hg hm ?_ hdb);refine PySem.W.callWith_K (h₀:=X.base) I.ok.mod.kin ci.kp (thn (ha cpos pins s σ H _ I h) λus s1⟨vs,H1,I1,r,hsz,q⟩=>⟨I1.kIn,?_⟩) he hpl;have hC:=I1.kIn _ _ hK;have hns:s1.heap.Ns N (s1.heap.nsMap N):=.of_isNs (PySem.W.isNs_of_in I1.kIn hok);have hini:=AQ I1.kIn hns hin;obtain⟨oI,hoI,hcI⟩:∃oI,s1.heap.get? fI=some oI∧oI.cls=.type "function":=by
  have z:PySem.W.typeIn X.K (.ref fI)=some (.type "function"):=beq_iff_eq.mp ci.fn;obtain⟨oI,h1,h2⟩:=Option.map_eq_some_iff.mp (show(X.K.lookup fI).map (·.cls)=some (.type "function")from z)
  exact⟨oI,I1.kIn _ _ h1,h2⟩
 obtain⟨hp,gg,d,tk,os⟩:=s1;show wpAny _ _ (call (.ref C) us) _ _ _;refine wpAny_call_exc_init c.base hC hns hini hoI hcI (λh' ea hme=>?_) (by rw[←r.length];exact hsz)
 obtain⟨tt,hobj,_,_⟩:=hme.there;have I2:Inv X pins σ (upd H1 ea (XO C tt ea none)) ⟨h',gg,d,tk,os⟩:=ED (t':=tk) I1 hme.keeps hme.new (GF hobj);have hq:=q ea tt (lz I1.hok hme.new);have r2:Vals (V.ref ea::vs) (Value.ref ea::us):=.cons rfl r;have hl:(Value.ref ea::us++[]).length=ps.length:=by
  rw[List.append_nil,←r2.length];exact F.len _ _ _ _ hq
 have hb2:=hb ⟨h',gg,d,tk,os⟩ (Value.ref ea::us) I2.kIn hl;rw[List.append_nil]at hb2;refine wpAny_call (codeAny_mono (F.run _ X.stack _ _ ⟨Value.ref ea::us,[]⟩ (Value.ref ea::us) _ _ _ (hr.make C us []) (I2.IX.make C us []) hb2 r2 hq) λres s' hres=>?_);cases res with
 |error ev=>
  obtain⟨_,_,_,_,_,_,_,_,_,_,_,_,_,z⟩:=hres;exact z.elim
 |ok fl=>
  cases fl with
  |ret u=>
   obtain⟨v,H',I3,rv,ev,dx,hx,hE⟩:=I2.after hres;subst ev;have go:s'.heap.get? ea=some (uF C tt (some dx)):=(show bM _ _ H' s'.heap ea (XO C tt ea (some dx))from I3.hok ea _ hx).1;exact⟨rv,ea,tt,some dx,rfl,I3.kIn _ _ hK,go,hR pins σ H' s' ea C tt dx I3 (eS I1 hex hme.new) hx hE⟩
  |next=>exact False.elim hres
  |brk=>exact False.elim hres
  |cont=>exact False.elim hres
end
section
variable {X:Cx}{C:Addr}{B newId initId:String}{bm:List Value}{i:Nat}{n cx:Str}{np hpos pos:Pos}{body suite:List Stmt}{b0:Stmt}{tb:Ends→TS}{th:TS}
def Xh(X:Cx)(e:Addr):Cx:={X with A:=X.A.mark (some (.ref e)),calm:=false,xe:=λ_ _=>False}
theorem Inv.xh{pins:List (Addr×Obj)}{σ:St}{H:Hp}{s:Shared}(I:Inv X pins σ H s)(e:Addr):Inv (Xh X e) pins σ H s:=
 ⟨⟨I.ok.mod,I.ok.kind,I.ok.glob,I.ok.blt,I.ok.above,I.ok.inj,I.ok.has,I.ok.cab,(λz=>by cases z),I.ok.frames,I.ok.stk,I.ok.exf,I.ok.bs,I.ok.bsz,I.ok.AR,I.ok.Bg,I.ok.sr,I.ok.frf⟩,I.os,I.bare,I.base,I.loc,I.cell,I.free,I.gu,I.pin,I.hok,I.len⟩
theorem Inv.Ds{pins:List (Addr×Obj)}{σ:St}{H:Hp}{s:Shared}{e:Addr}(I:Inv (Xh X e) pins σ H s)(hh:X.calm=true→X.A.handled=none):Inv X pins σ H s:=
 ⟨⟨I.ok.mod,I.ok.kind,I.ok.glob,I.ok.blt,I.ok.above,I.ok.inj,I.ok.has,I.ok.cab,hh,I.ok.frames,I.ok.stk,I.ok.exf,I.ok.bs,I.ok.bsz,I.ok.AR,I.ok.Bg,I.ok.sr,I.ok.frf⟩,I.os,I.bare,I.base,I.loc,I.cell,I.free,I.gu,I.pin,I.hok,I.len⟩
def gone(i:Nat)(D:Ends):Ends:={nx:=λσ H=>D.nx (σ.set i none) H,rt:=D.rt,bk:=λσ H=>D.bk (σ.set i none) H,ct:=λσ H=>D.ct (σ.set i none) H}
def Et(C:Addr)(i N:Nat)(th:TS)(D:Ends):XK:=λcls od H'=>cls=.ref C∧∃dx,od=some dx∧∀e,H' e=none→th (gone i D) ((List.replicate N none).set i (some (.ref e))) (upd H' e (XR C e dx))
def Jj(X:Cx)(pins:List (Addr×Obj))(D:Ends)(hs:List ExceptHandler):Value→Shared→Prop:=λe s1=>
 wpAny (model X.prog X.w) X.A (noteFrame e X.env) (λ_ s2=>wpAny (model X.prog X.w) X.A (setFlight e none) (λ_ s3=>wpAny (model X.prog X.w) X.A (handleBy e X.env hs) (SP X pins D) X.xe s3) X.xe s2) X.xe s1
abbrev Xt(X:Cx)(pins:List (Addr×Obj))(D:Ends)(hs:List ExceptHandler):Cx:={X with xe:=Jj X pins D hs,pn:=X.pn++pins}
theorem G5{pins:List (Addr×Obj)}{σ:St}{H:Hp}{s:Shared}{D:Ends}{hs:List ExceptHandler}(I:Inv X pins σ H s):Inv (Xt X pins D hs) [] σ H s:=
 ⟨⟨I.ok.mod,I.ok.kind,I.ok.glob,I.ok.blt,I.ok.above,I.ok.inj,I.ok.has,I.ok.cab,I.ok.hd,I.ok.frames,I.ok.stk,I.ok.exf,I.ok.bs,I.ok.bsz,I.ok.AR,I.ok.Bg,I.ok.sr,I.ok.frf⟩,I.os,I.bare,I.base,I.loc,I.cell,I.free,I.gu,
  λp hp=>I.pin p (by rw[List.append_nil]at hp;exact hp),I.hok,I.len⟩
theorem ib{pins pins':List (Addr×Obj)}{σ:St}{H:Hp}{s:Shared}{D:Ends}{hs:List ExceptHandler}(I:Inv (Xt X pins D hs) pins' σ H s):Inv X pins σ H s:=
 ⟨⟨I.ok.mod,I.ok.kind,I.ok.glob,I.ok.blt,I.ok.above,I.ok.inj,I.ok.has,I.ok.cab,I.ok.hd,I.ok.frames,I.ok.stk,I.ok.exf,I.ok.bs,I.ok.bsz,I.ok.AR,I.ok.Bg,I.ok.sr,I.ok.frf⟩,I.os,I.bare,I.base,I.loc,I.cell,I.free,I.gu,
  λp hp=>I.pin p (List.mem_append_left _ hp),I.hok,I.len⟩
theorem vJ{pins:List (Addr×Obj)}{D:Ends}(c:sJ X.K C B newId initId bm)(hex:X.ex=[])(hst:X.stack=X.env::X.outer)(hfr:X.env.frame=some X.env.locals)(hg:Gl X cx)(hm:X.mg cx=some (.ref C))(hN:X.N.Nodup)(hi:X.N[i]?=some n)
  (hl:X.env.kindOf n=some .local)(hh:∀e,PSs (Xh X e) (b0::suite) th)(hdb:(cx==("__debug__":Str))=false:=by decide):
  Passes (CXx X.prog X.w) (Xt X pins D [.ExceptHandler (some (.Name cx np)) (some n) (b0::suite) hpos]) (Et C i X.N.length th D):=by
 rintro pins' σ H s ev s' I0 ⟨e,C',dx,T,H',rfl,os,bare,un,hok,F,f1,f2,hE⟩;have I:Inv X pins σ H s:=ib I0;have I1:Inv X pins σ H' s':=I.Co (ch:=[]) os un hok bare (λ_ z=>nomatch z);obtain⟨⟨oe,vs,he,hc,hx,hd,hT⟩,hu,hTu⟩:=F;obtain⟨ec,dx',ed,hth⟩:=hE;obtain rfl:C'=C:=by injection ec
 obtain rfl:dx=dx':=Option.some.inj ed;show Jj X pins D _ (.ref e) s';refine A5 (base:=X.base) (by rw[I1.ok.frames,hst]) (by rw[←hst];exact I1.stack) hfr he hd hT λh1 T1 nt=>?_
 have fre:X.s_0.heap.get? e=none:=eS I hex f1;have npe:∀p∈X.pn++pins,p.1≠e∧p.1≠T:=λp hp=>⟨λz=>(by have:=(I.pin p hp).1;rw[z,f1]at this;cases this),λz=>(by have:=(I.pin p hp).1;rw[z,f2]at this;cases this)⟩
 have hTd:∃oT ts,s'.heap.get? T=some oT∧oT.data=.fields ts:=let⟨_,_,oT,ts,g,d,_⟩:=hT;⟨oT,ts,g,d⟩;have I2:Inv X pins σ H' {s' with heap:=h1}:=by
  refine sg (t':=s'.toks) (λb=>b=e∨b=T) I1 hex (λb o nz nf q=>nt.keep b o (λz=>nz (.inl z)) (λz=>nz (.inr (Option.some.inj z).symm)) (by rw[hst]at nf;exact nf) q) (λb o hb q=>nt.slot b o (by rw[hst]at hb;exact hb) q) (λb z=>?_) (λb z=>?_) (λb o z q=>?_) λp hp z=>?_
  ·rcases z with rfl|rfl
   ·exact fre
   ·exact eS I hex f2
  ·rcases z with rfl|rfl
   ·exact hu
   ·exact hTu _ rfl
  ·rcases z with rfl|rfl
   ·rw[he]at q;cases q;exact⟨vs,hd⟩
   ·obtain⟨oT,ts,g,d⟩:=hTd;rw[g]at q;cases q;exact⟨ts,d⟩
  ·rcases z with z|z
   ·exact(npe p hp).1 z
   ·exact(npe p hp).2 z
 obtain⟨nm,q,N,bs,sn,sub,ab,col,dd,k0,k1,k2,k3,k5,hK,_⟩:=c.obj;refine EF (nm:=nm) (q:=q) (C:=C') (N:=N) (bs:=bs) (bm:=bm) (hdct:=true) (sn:=sn) (sub:=sub) (ab:=ab) (col:=col) (dd:=dd) (k0:=k0) (k1:=k1) (k2:=k2) (k3:=k3) (k5:=k5) (newId:=newId) c.base.hasBase ?_;refine km (X:=Xh X e) (Inv.xh I2 e) hg hm ?_ hdb;refine⟨rfl,I2.kIn _ _ hK,⟨_,nt.exc,(Obj.cls_mapFields _ _).trans hc⟩,?_⟩;obtain⟨oT,ts,gT,dT,h3⟩:=nt.head;have sz:=BH hT;have hd1:=Obj.data_mapFields hd (·.setIfInBounds 1 (Value.ref T1))
 have neT:e≠T1:=λz=>by have:=nt.new;rw[←z,he]at this;cases this
 refine we nt.exc hd1 (by simp[sz]) gT dT h3 λh2 kp hd2=>?_
 have I3:Inv X pins σ H' {s' with heap:=h2}:=by
  refine sg (s:={s' with heap:=h1}) (t':=s'.toks) (λb=>b=T1) I2 hex (λb o nz _ q=>kp b o nz q) (λb o hb q=>⟨o.slots,kp b o (λz=>?_) q⟩) (λb z=>?_) (λb z=>?_) (λb o z q=>?_) λp hp z=>?_
  ·subst z;obtain⟨_,o',ho',nf⟩:=I2.stack.mem hb;rw[show h1.get? b=some o' from ho']at gT;cases gT;exact nf ts dT
  ·subst z;exact eS I1 hex nt.new
  ·subst z;exact lz I1.hok nt.new
  ·subst z;rw[show h1.get? b=some o from q]at gT;cases gT;exact⟨ts,dT⟩
  ·have:=(I1.pin p hp).1;rw[z,nt.new]at this;cases this
 have I4:Inv X pins (List.replicate X.N.length none) H' {s' with heap:=h2}:=I3.weak (by rw[List.length_replicate,I3.len]) λj v z=>by
  rw[List.getElem?_replicate]at z
  split at z<;>cases z
 have ge:=kp e _ neT nt.exc;have I5:=C4 (o:=XR C' e dx) I4 hu fre ⟨_,_,ge,hd1⟩ (λp hp=>(npe p hp).1) (Jm ge ((Obj.cls_mapFields _ _).trans hc) ((xu _ _).trans hx) hd1);refine rm I5 hN hi (.inl hl) (v:=.ref e) rfl (λs4 I6=>?_) (.inr hl);refine wpAny_mono ((hh e) pins s4 _ _ (gone i D) (Inv.xh I6 e) (hth e hu)) (λf s5 q5=>?_) λ_ _ z=>z;have fin:∀{σ5:St}{H5:Hp},Inv (Xh X e) pins σ5 H5 s5→∀{R:Prop},(∀s6,Inv X pins (σ5.set i none) H5 s6→SP X pins D f s6)→wpAny (model X.prog X.w) X.A (do bindName X.env n .none;unbindBehindTheSuite X.env n hpos) (λ_ s6=>SP X pins D f s6) X.xe s5:=λ{σ5 H5}J{R}hfin=>by
  have J':Inv X pins σ5 H5 s5:=Inv.Ds J I.ok.hd;obtain⟨m,hm5,_⟩:=id J'.loc;refine wpAny_nameGoes_keeps hl hm5 (by rw[I.ok.kind];rfl) λh6 v hn6 hs6=>hfin _ (C3 J' hN hi hm5 hn6 hs6 hl)
 cases f with
 |next=>
  obtain⟨σ5,H5,J,r⟩:=q5;exact fin J (R:=True) λs6 J6=>⟨_,_,J6,r⟩
 |brk=>
  obtain⟨σ5,H5,J,r⟩:=q5;exact fin J (R:=True) λs6 J6=>⟨_,_,J6,r⟩
 |cont=>
  obtain⟨σ5,H5,J,r⟩:=q5;exact fin J (R:=True) λs6 J6=>⟨_,_,J6,r⟩
 |ret u=>
  obtain⟨v,σ5,H5,J,rv,r⟩:=q5;exact fin J (R:=True) λs6 J6=>⟨v,_,_,J6,rv,r⟩
theorem D0(hb:∀pins D,PSs (Xt X pins D [.ExceptHandler (some (.Name cx np)) (some n) (b0::suite) hpos]) body (tb D)):
  PS X (.Try body [.ExceptHandler (some (.Name cx np)) (some n) (b0::suite) hpos] [] [] pos) (λD σ H=>tb D D σ H):=by
 intro pins s σ H D I h;refine wpAny_Try_except (wpAny_mono (hb pins D [] s σ H D (G5 I) h) (λf s1 q=>?_) λ_ _ z=>z);cases f with
 |next=>
  obtain⟨σ',H',I',q'⟩:=q;exact wpAny_execs_nil ⟨σ',H',ib I',q'⟩
 |ret v=>
  obtain⟨v',σ',H',I',r,q'⟩:=q;exact⟨v',σ',H',ib I',r,q'⟩
 |brk=>
  obtain⟨σ',H',I',q'⟩:=q;exact⟨σ',H',ib I',q'⟩
 |cont=>
  obtain⟨σ',H',I',q'⟩:=q;exact⟨σ',H',ib I',q'⟩
end
end L2
namespace Sp
open Stencil
abbrev Tx:=Nat×(Bytes×Bytes)
def ky(e:Tx):Nat×Bytes:=(e.1,e.2.1)
def TOk(d:Data):Prop:=(d.texts.map ky).Nodup
theorem TOk.empty:TOk Stencil.empty:=by unfold TOk;exact List.nodup_nil
def hit(s:Nat)(n:Bytes)(e:Tx):Bool:=e.1==s&&e.2.1==n
theorem c3{s:Nat}{n:Bytes}{e:Tx}:hit s n e=true↔ky e=(s,n):=by
 unfold hit ky;rw[Bool.and_eq_true,beq_iff_eq,beq_iff_eq,Prod.mk.injEq]
theorem dZ(d:Data)(s:Nat)(n:Bytes):textIn d s n=(d.texts.find? (hit s n)).map λe=>e.2.2:=rfl
def sub(s:Nat)(n v:Bytes)(e:Tx):Tx:=if hit s n e=true then(e.1,(n,v))else e
theorem o8{d:Data}{n v:Bytes}(h:(textIn d d.here n).isSome=true):Stencil.put d n v={d with texts:=d.texts.map (sub d.here n v)}:=by
 unfold Stencil.put;rw[if_pos h];rfl
theorem o9{d:Data}{n v:Bytes}(h:textIn d d.here n=none):Stencil.put d n v={d with texts:=d.texts++[(d.here,(n,v))]}:=by
 unfold Stencil.put;rw[if_neg (by rw[h];exact Bool.false_ne_true)]
theorem zf{d:Data}{s:Nat}{n:Bytes}(h:textIn d s n=none):∀e∈d.texts,hit s n e=false:=by
 rw[dZ,Option.map_eq_none_iff,List.find?_eq_none]at h;exactλe he=>Bool.eq_false_iff.mpr (h e he)
theorem yH(s:Nat)(n v:Bytes)(e:Tx):ky (sub s n v e)=ky e:=by
 unfold sub
 split
 ·rename_i h;rw[c3]at h;rw[h];have:e.1=s:=(Prod.mk.inj h).1;show(e.1,n)=_;rw[this]
 ·rfl
theorem TOk.put{d:Data}(t:TOk d)(n v:Bytes):TOk (Stencil.put d n v):=by
 cases h:textIn d d.here n with
 |none=>
  rw[o9 h];unfold TOk;show((d.texts++[(d.here,(n,v))]).map ky).Nodup;rw[List.map_append,List.nodup_append];refine⟨t,by simp,λa ha b hb=>?_⟩
  rw[List.mem_map]at ha;obtain⟨e,he,rfl⟩:=ha;have q:=zf h e he;have:b=(d.here,n):=by simpa[ky]using hb
  rw[this];intro z;rw[c3.mpr z]at q;cases q
 |some x=>
  rw[o8 (by rw[h];rfl)]
  unfold TOk;show((d.texts.map (sub d.here n v)).map ky).Nodup;rw[List.map_map,show d.texts.map (ky∘sub d.here n v)=d.texts.map ky from List.map_congr_left λe _=>yH _ _ _ e];exact t
theorem jh(d:Data)(n v:Bytes):(Stencil.put d n v).items=d.items:=by
 unfold Stencil.put;split<;>rfl
theorem qM(d:Data)(n v:Bytes):(Stencil.put d n v).opened=d.opened:=by
 unfold Stencil.put;split<;>rfl
theorem wV{d:Data}{n v:Bytes}(h:textIn d d.here n=none):count (Stencil.put d n v)=count d+1:=by
 rw[o9 h];unfold count;show(d.texts++[(d.here,(n,v))]).length+d.items.length=_;rw[List.length_append];simp only[List.length_cons,List.length_nil];omega
theorem wU{d:Data}{n v x:Bytes}(h:textIn d d.here n=some x):count (Stencil.put d n v)=count d:=by
 rw[o8 (by rw[h];rfl)];unfold count
 show(d.texts.map (sub d.here n v)).length+d.items.length=_;rw[List.length_map]
def wt(e:Tx):Nat:=e.2.1.length+e.2.2.length
theorem wY{d:Data}{n v:Bytes}(h:textIn d d.here n=none):bytesOf (Stencil.put d n v)=bytesOf d+(n.length+v.length):=by
 rw[o9 h];unfold bytesOf;show(((d.texts++[(d.here,(n,v))]).map wt).sum)+(d.items.map λi=>i.2.length).sum=(d.texts.map wt).sum+(d.items.map λi=>i.2.length).sum+_;rw[List.map_append,List.sum_append];simp only[List.map_cons,List.map_nil,List.sum_cons,List.sum_nil,wt];omega
theorem BA(s:Nat)(n v:Bytes):∀{l:List Tx}{x:Tx},(l.map ky).Nodup→l.find? (hit s n)=some x→((l.map (sub s n v)).map wt).sum+x.2.2.length=(l.map wt).sum+v.length
 |[],x,_,h=>by cases h
 |e::l,x,nd,h=>by
  rw[List.map_cons,List.nodup_cons]at nd;rw[List.find?_cons]at h;simp only[List.map_cons,List.sum_cons];cases q:hit s n e with
  |true=>
   rw[q]at h;obtain rfl:e=x:=Option.some.inj h;have rest:l.map (sub s n v)=l:=by
    have:∀y∈l,sub s n v y=y:=λy hy=>by
     unfold sub;rw[if_neg];intro z;rw[c3]at z q;exact nd.1 (List.mem_map.mpr ⟨y,hy,z.trans q.symm⟩)
    rw[List.map_congr_left this,List.map_id']
   rw[rest];have w:wt (sub s n v e)=n.length+v.length:=by unfold sub;rw[if_pos q];rfl
   have en:e.2.1=n:=(Prod.mk.inj (c3.mp q)).2;rw[w];unfold wt;rw[en];omega
  |false=>
   rw[q]at h;have ih:=BA s n v nd.2 h;have w:sub s n v e=e:=by unfold sub;rw[if_neg (by rw[q];exact Bool.false_ne_true)]
   rw[w];omega
theorem wX{d:Data}{n v x:Bytes}(t:TOk d)(h:textIn d d.here n=some x):bytesOf (Stencil.put d n v)+x.length=bytesOf d+v.length:=by
 rw[o8 (by rw[h];rfl)]
 rw[dZ,Option.map_eq_some_iff]at h;obtain⟨e,he,rfl⟩:=h;have:=BA d.here n v t he;unfold bytesOf;show((d.texts.map (sub d.here n v)).map wt).sum+(d.items.map λi=>i.2.length).sum+_=(d.texts.map wt).sum+(d.items.map λi=>i.2.length).sum+_;omega
theorem Bi(d:Data)(n:Bytes):count (Stencil.openItem d n)=count d+1:=by
 unfold count Stencil.openItem;show d.texts.length+(d.items++[(d.here,n)]).length=_;rw[List.length_append];simp only[List.length_cons,List.length_nil];omega
theorem Bo(d:Data)(n:Bytes):bytesOf (Stencil.openItem d n)=bytesOf d+n.length:=by
 unfold bytesOf Stencil.openItem;show _+((d.items++[(d.here,n)]).map λi=>i.2.length).sum=_;rw[List.map_append,List.sum_append];simp only[List.map_cons,List.map_nil,List.sum_cons,List.sum_nil];omega
theorem oK(d:Data):fitsIn d=true↔count d≤32∧bytesOf d≤512:=by
 unfold fitsIn;rw[Bool.and_eq_true,decide_eq_true_eq,decide_eq_true_eq];rfl
def i8(b:Bytes):List Int:=b.map λ(c:UInt8)=>((c.toNat:Nat):Int)
theorem aQ(b:Bytes):(i8 b).length=b.length:=by unfold i8;rw[List.length_map]
theorem oF(a b:Bytes):i8 (a++b)=i8 a++i8 b:=by unfold i8;rw[List.map_append]
theorem si(c:UInt8)(b:Bytes):i8 (c::b)=((c.toNat:Nat):Int)::i8 b:=rfl
theorem byte_back{z:Int}(h:WqataeNeutral.natural z 8=true):(((UInt8.ofNat z.toNat).toNat:Nat):Int)=z:=by
 unfold WqataeNeutral.natural at h;simp only[Bool.and_eq_true,decide_eq_true_eq]at h;have h2:z.toNat<256:=by omega
 have:(UInt8.ofNat z.toNat).toNat=z.toNat:=by
  rw[UInt8.toNat_ofNat'];omega
 rw[this];omega
theorem fg:∀{l:List Int},l.all (λz=>WqataeNeutral.natural z 8)=true→i8 (WqataeNeutral.bytes l)=l
 |[],_=>rfl
 |z::l,h=>by
  rw[List.all_cons,Bool.and_eq_true]at h;show((UInt8.ofNat z.toNat).toNat:Int)::i8 (WqataeNeutral.bytes l)=z::l;rw[byte_back h.1,fg h.2]
theorem rT{z:Int}{k:Nat}(h:WqataeNeutral.natural z k=true):WqataeNeutral.int (WqataeNeutral.nat z)=z:=by
 unfold WqataeNeutral.natural at h;simp only[Bool.and_eq_true,decide_eq_true_eq]at h;show((z.toNat:Nat):Int)=z;omega
def ez(c:Wqatae.Call):List Int:=PyFlat.put1 (WqataeNeutral.rowsOf c)
def row(b:Bytes):List Int:=(b.length:Int)::i8 b
theorem ji(b:Bytes):PyFlat.putRow (i8 b)=row b:=by unfold PyFlat.putRow row;rw[aQ]
theorem yO(x:Bytes):ez (.compile x)=0::row x:=by
 show 0::(PyFlat.putRow (i8 x)++[])=_;rw[List.append_nil,ji]
theorem EM(n v:Bytes):ez (.put n v)=2::(row n++row v):=by
 show 2::(PyFlat.putRow (i8 n)++(PyFlat.putRow (i8 v)++[]))=_;rw[List.append_nil,ji,ji]
theorem Dd(n:Bytes):ez (.openItem n)=3::row n:=by
 show 3::(PyFlat.putRow (i8 n)++[])=_;rw[List.append_nil,ji]
theorem z5(f n:Nat):ez (.render f n)=[6,(f:Int),(n:Int)]:=rfl
theorem De(i:Nat):ez (.hole i)=[7,(i:Int)]:=rfl
theorem Be(x:Bytes):ez (.check x)=8::row x:=by
 show 8::(PyFlat.putRow (i8 x)++[])=_;rw[List.append_nil,ji]
theorem Bd(i:Nat)(x:Bytes):ez (.event i x)=9::(i:Int)::row x:=by
 show 9::(i:Int)::(PyFlat.putRow (i8 x)++[])=_;rw[List.append_nil,ji]
def flat(cs:List Wqatae.Call):List Int:=cs.flatMap ez
theorem tT(c:Wqatae.Call)(cs:List Wqatae.Call):flat (c::cs)=ez c++flat cs:=List.flatMap_cons ..
theorem z6(a b:List Wqatae.Call):flat (a++b)=flat a++flat b:=List.flatMap_append ..
def ans(a:Wqatae.Ans):List Int:=a.ret::a.nums.map λ(n:Nat)=>(n:Int)
def outs(s:Wqatae.State):List Wqatae.Call→List Int
 |[]=>[]
 |c::r=>(((ans (Wqatae.step s c).2).length:Nat):Int)::(ans (Wqatae.step s c).2++outs (Wqatae.step s c).1 r)
def sq(s:Wqatae.State):List Wqatae.Call→Wqatae.State
 |[]=>s
 |c::r=>sq (Wqatae.step s c).1 r
theorem Ef(a b:List Wqatae.Call):∀s,outs s (a++b)=outs s a++outs (sq s a) b:=by
 induction a with
 |nil=>intro s;rfl
 |cons c r ih=>
  intro s;show _::(_++outs _ (r++b))=(_::(_++outs _ r))++_;rw[ih,List.cons_append,List.append_assoc];rfl
theorem EG(a b:List Wqatae.Call):∀s,sq s (a++b)=sq (sq s a) b:=by
 induction a with
 |nil=>intro s;rfl
 |cons c r ih=>intro s;exact ih _
theorem xr(s:Wqatae.State)(a:List Wqatae.Call)(c:Wqatae.Call):
  outs s (a++[c])=outs s a++((((ans (Wqatae.step (sq s a) c).2).length:Nat):Int)::ans (Wqatae.step (sq s a) c).2):=by
 rw[Ef];show _++(_::(_++[]))=_;rw[List.append_nil]
theorem C8(s:Wqatae.State)(a:List Wqatae.Call)(c:Wqatae.Call):sq s (a++[c])=(Wqatae.step (sq s a) c).1:=by
 rw[EG];rfl
theorem Dq(c:List (List Int)):PyWqatae.whole c=c:=by
 unfold PyWqatae.whole
 split<;>rfl
theorem y3{c:List (List Int)}(h:WqataeNeutral.asked1 c=true):∃x:Wqatae.Call,WqataeNeutral.callOf c=some x∧WqataeNeutral.rowsOf x=c∧Wqatae.asked x=true:=by
 unfold WqataeNeutral.asked1 at h
 split at h
 ·exact⟨_,rfl,by show[[0],i8 _]=_;rw[fg h],rfl⟩
 ·exact⟨_,rfl,rfl,rfl⟩
 ·rw[Bool.and_eq_true]at h;exact⟨_,rfl,by show[[2],i8 _,i8 _]=_;rw[fg h.1,fg h.2],rfl⟩
 ·exact⟨_,rfl,by show[[3],i8 _]=_;rw[fg h],rfl⟩
 ·exact⟨_,rfl,rfl,rfl⟩
 ·exact⟨_,rfl,rfl,rfl⟩
 ·rename_i p n;rw[Bool.and_eq_true]at h;have h1:=h.1;have h2:=h.2;unfold WqataeNeutral.natural at h1 h2;simp only[Bool.and_eq_true,decide_eq_true_eq]at h1 h2;refine⟨_,rfl,by show[[6,WqataeNeutral.int (WqataeNeutral.nat _),WqataeNeutral.int (WqataeNeutral.nat _)]]=_;rw[rT h.1,rT h.2],?_⟩
  show(decide (p.toNat<2^32)&&decide (n.toNat<2^32))=true;rw[Bool.and_eq_true,decide_eq_true_eq,decide_eq_true_eq];omega
 ·rename_i i;have h1:=h;unfold WqataeNeutral.natural at h1;simp only[Bool.and_eq_true,decide_eq_true_eq]at h1;refine⟨_,rfl,by show[[7,WqataeNeutral.int (WqataeNeutral.nat _)]]=_;rw[rT h],?_⟩
  show decide (i.toNat<2^32)=true;rw[decide_eq_true_eq];omega
 ·exact⟨_,rfl,by show[[8],i8 _]=_;rw[fg h],rfl⟩
 ·rename_i i x;rw[Bool.and_eq_true]at h;have h1:=h.1;unfold WqataeNeutral.natural at h1;simp only[Bool.and_eq_true,decide_eq_true_eq]at h1;refine⟨_,rfl,by show[[9,WqataeNeutral.int (WqataeNeutral.nat _)],i8 _]=_;rw[rT h.1,fg h.2],?_⟩
  show decide (i.toNat<2^32)=true;rw[decide_eq_true_eq];omega
 ·cases h
theorem xf:∀{cs:List (List (List Int))},cs.all WqataeNeutral.asked1=true→
  ∃xs:List Wqatae.Call,cs=xs.map WqataeNeutral.rowsOf∧(∀x∈xs,Wqatae.asked x=true)∧∀s,PyFlat.told (PyFlat.played WqataeNeutral.step s cs)=outs s xs
 |[],_=>⟨[],rfl,(λ_ h=>nomatch h),λ_=>rfl⟩
 |c::cs,h=>by
  rw[List.all_cons,Bool.and_eq_true]at h;obtain⟨x,h1,h2,h3⟩:=y3 h.1;obtain⟨xs,k1,k2,k3⟩:=xf h.2;refine⟨x::xs,by rw[List.map_cons,h2,k1],λy hy=>?_,λs=>?_⟩
  ·cases hy with
   |head=>exact h3
   |tail _ hy=>exact k2 y hy
  ·have e:WqataeNeutral.step s c=((Wqatae.step s x).1,ans (Wqatae.step s x).2):=by
    unfold WqataeNeutral.step;rw[h1];rfl
   show PyFlat.told ((WqataeNeutral.step s c).2::PyFlat.played WqataeNeutral.step (WqataeNeutral.step s c).1 cs)=_;rw[e];show(((ans (Wqatae.step s x).2).length:Nat):Int)::(ans (Wqatae.step s x).2++PyFlat.told (PyFlat.played WqataeNeutral.step (Wqatae.step s x).1 cs))=_;rw[k3];rfl
def nums(c:Wqatae.Call):Nat:=((WqataeNeutral.rowsOf c).map λ(r:List Int)=>r.length).sum
theorem ui:∀xs:List Wqatae.Call,WqataeNeutral.numbers (xs.map WqataeNeutral.rowsOf)=(xs.map nums).sum
 |[]=>rfl
 |x::xs=>by
  have e:=ui xs;unfold WqataeNeutral.numbers at e⊢;rw[List.map_cons,List.flatten_cons,List.map_append,List.sum_append,e,List.map_cons,List.sum_cons];rfl
structure Hc(l:List Int)(cs:List Wqatae.Call):Prop where
 flat:l=flat cs
 due:PyWqatae.answers l=outs Wqatae.start cs
 each:∀x∈cs,Wqatae.asked x=true
 some:1≤cs.length
 most:cs.length≤400
 sum:cs.length*((cs.map nums).sum+1000)≤1000000
theorem DZ(xs:List Wqatae.Call):PyFlat.put (xs.map WqataeNeutral.rowsOf)=flat xs:=by
 induction xs with
 |nil=>rfl
 |cons x xs ih=>rw[List.map_cons,tT,←ih];rfl
theorem Bq{l:List Int}(h:PyWqatae.answers_asked l=true):∃cs,Hc l cs:=by
 unfold PyWqatae.answers_asked at h;have e0:PyWqatae.calls l=PyFlat.calls PyWqatae.shape l.length l:=by
  unfold PyWqatae.calls;cases PyFlat.calls PyWqatae.shape l.length l with
  |none=>rfl
  |some cs=>
   show some (cs.map PyWqatae.whole)=some cs;rw[show cs.map PyWqatae.whole=cs from by rw[List.map_congr_left λc _=>Dq c,List.map_id']]
 cases e:PyFlat.calls PyWqatae.shape l.length l with
 |none=>rw[e0,e]at h;cases h
 |some cs=>
  rw[e0,e]at h;dsimp only at h;unfold WqataeNeutral.asked at h;simp only[Bool.and_eq_true,decide_eq_true_eq]at h;obtain⟨h0,⟨⟨h1,h2⟩,h3⟩,h4⟩:=h;obtain⟨xs,k1,k2,k3⟩:=xf h1;have p:=(PyFlat.put_calls _ _ _ e).1;subst k1;rw[List.length_map]at h2 h3 h4;refine⟨xs,p.trans (DZ xs),?_,k2,h2,h3,?_⟩
  ·unfold PyWqatae.answers;rw[e0,e];exact k3 _
  ·rw[ui]at h4;exact Nat.le_trans (Nat.le_add_right _ _) h4
end Sp
namespace LX
open PySem Builtin
section
variable {prog:Program}{w:World}{K:Type}[DecidableEq K]{knd:HeapKind prog w K}{A:Around}{E:Value→Shared→Prop}{s:Shared}
theorem zl{d b:Addr}{es0:List (K×Addr×Value)}{k:K}{z:Value}{R:Value→Shared→Prop}(room:knd.room A)(isK:knd.is s.heap k b)(isD:s.heap.DictOfH knd d es0)
  (there:∀p,atKey es0 k=some p→R p.2 {s with toks:=s.toks+knd.draws k})
  (new:atKey es0 k=none→∀h2,h2.DictOfH knd d (storedH es0 k b z)→Heap.SameBut d s.heap h2→R z {s with heap:=h2,toks:=s.toks+knd.draws k})
  (fits:es0.length≤sizeLine):wpAny (model prog w) A (dictSetDefault d (.ref b) z) R E s:=by
 obtain⟨ob,raw,ep,g1,g2,g3,g4,g5,g6⟩:=isD;unfold dictSetDefault
 try with_reducible refine wpAny_holding ?_
 refine wpAny_bind (knd.pyHash room isK ?_);refine wpAny_bind (wpAny_dictFind_heap (s:={s with toks:=s.toks+knd.draws k}) room isK g1 g3 g4 g5 g6 ?_ ?_)
 ·intro no;have out:k∉es0.map (·.1):=not_mem_keys_of_get no
  have an:=atKey_none_of_get no;refine wpAny_bind (wpAny_rule (wpAny_bind (wpAny_updateDictKeys (hz:=by have q:=size_of_entries g4;omega) (s:={s with toks:=s.toks+knd.draws k}) g1 g3 (wpAny_pure
   (new an _ ⟨_,_,ep+1,Heap.get?_update_self _ g1 (Obj.isFreed_of_dict (Obj.data_mapDictKeys g3 _)),g2.mapDictKeys _,Obj.data_mapDictKeys g3 _,?_,?_,?_⟩ (Heap.SameBut.update ..))))))
  ·rw[storedH_new an];simp[g4,entryOfKey]
  ·rw[storedH_new an];intro y hy;rcases List.mem_append.mp hy with m|m
   ·exact knd.keeps (g5 y m) g1 g3 (Heap.SameBut.update ..)
   ·rw[List.mem_singleton.mp m];exact knd.keeps isK g1 g3 (Heap.SameBut.update ..)
  ·rw[storedH_new an,List.map_append,List.nodup_append];refine⟨g6,by simp,λy1 m1 y2 m2 e=>out ?_⟩
   rw[List.map_cons,List.map_nil,List.mem_singleton]at m2;have m3:y2=k:=m2;rw[←m3,←e];exact m1
 ·intro j p at_;have q:=there p (atKey_of_get g6 at_);refine wpAny_bind (wpAny_dictEntries (s:={s with toks:=s.toks+knd.draws k}) g1 g3 ?_)
  rw[entry_at g4 j,at_];exact wpAny_bind (wpAny_rule (wpAny_pure q))
theorem yE(d b:Addr)(nsys:(d==sysModules)=false)(z:Value):
  MeetsIn prog w (Builtin.«dict.setdefault» ⟨[.ref d,.ref b,z],[]⟩) (λA R s=>knd.room A.in1∧∃k es0,knd.is s.heap k b∧s.heap.DictOfH knd d es0∧es0.length≤sizeLine∧
   (∀p,atKey es0 k=some p→R (.ok (.ret p.2)) {s with toks:=s.toks+knd.draws k})∧
   (atKey es0 k=none→∀h2,h2.DictOfH knd d (storedH es0 k b z)→Heap.SameBut d s.heap h2→R (.ok (.ret z)) {s with heap:=h2,toks:=s.toks+knd.draws k})):=
 .of_wp λA R s⟨room,k,es0,isK,isD,fits,q1,q2⟩=>by
  unfold Builtin.«dict.setdefault»;refine wpAny_bind ?_;unfold Builtin.Dict.keyAndDefault;refine wpAny_bind (wpAny_notOrdered_dict isD.typeIs ?_);show wpAny _ _ (pure (d,Value.ref b,some z)) _ _ s;refine wpAny_pure ?_;show wpAny _ _ (if(d==sysModules)=true then _ else(dictSetDefault d (.ref b) z>>=_)) _ _ s
  rw[if_neg (by rw[nsys];decide)]
  exact wpAny_bind (zl room isK isD (λp e=>wpAny_pure ⟨_,rfl,q1 p e⟩) (λe h2 i1 i2=>wpAny_pure ⟨_,rfl,q2 e h2 i1 i2⟩) fits)
end
end LX
namespace L2
open PySem PySem.Spec PyProof.Rows LX
def Jx(td ty tx:TE):TE:=λσ H Q=>td σ H λx H1=>∃a,x=.ref a∧IsD H1 a∧ty σ H1 λy H2=>tx σ H2 λz H3=>∃kvs k b,H3 a=some (.dT kvs)∧y=.ref b∧H3 b=some (.tup (k.map kV))∧kvs.length<sizeLine∧
 (∀v,dY kvs k=some v→Q v H3)∧(dY kvs k=none→Q z (upd H3 a (.dT (putK kvs k z))))
section
variable {X:Cx}{o e f:Expr}{apos cpos:Pos}{td ty tx:TE}
theorem FW(hu:X.A.units+1<cLine)(ho:PE X o td)(he:PE X e ty)(hf:PE X f tx)(m:M2 X o "setdefault" apos e f cpos):PE X (.Call (.Attribute o "setdefault" apos) [e,f] [] cpos) (Jx td ty tx):=by
 intro pins s σ H Q I h;refine wpAny_Call_method m.base m.few m.line PySem.F.plainAttrs_dict PySem.F.slot_dict_setdefault PySem.F.type_dict_setdefault (thn (ho pins s σ H _ I h) λu s1⟨x,H1,I1,rx,a,ex,d,q1⟩=>?_);subst ex;obtain rfl:u=Value.ref a:=rx;obtain⟨t1,t2,_⟩:=EC I1 d;refine⟨t1,t2,?_⟩;rw[m.trees];refine Calls.callWith_builtin rfl (Calls.evalArgs_plain (Calls.spliced_cons (thn (he pins s1 σ H1 _ I1 q1) λiv s2⟨y,H2,I2,ry,q2⟩=>
  Calls.spliced_cons (thn (hf pins s2 σ H2 _ I2 q2) λfv s3⟨z,H3,I3,rz,kvs,k,b,e1,ey,e2,hl,k1,k2⟩=>Calls.spliced_nil ?_))))
 subst ey;cases(show iv=Value.ref b from ry);obtain⟨sz,hd,xs,rel,dd⟩:=G7 I3.hok e1;have hz:xs.length≤sizeLine:=by rw[←Paired.length rel];exact sz
 refine call_meetsIn PySem.F.slot_dict_setdefault dd.typeIs PySem.F.entry_dict_setdefault (PySem.F.args_dict_setdefault_3 _ _ _) (yE (knd:=tupleKind (cM X.prog X.w)) a b hd fv) ⟨tupleKind_room_in1 hu,k,xs,tP I3.hok e2,dd,hz,λp hp=>?_,λhn h' dd' hs=>?_⟩
 ·have q:=rel.val k;rw[hp]at q;cases ev:dY kvs k with
  |none=>rw[ev]at q;exact q.elim
  |some v=>
   rw[ev]at q;exact⟨v,H3,I3.tok _,q,k1 v ev⟩
 ·have q:=rel.val k;rw[hn]at q;have ev:dY kvs k=none:=by
   cases ev:dY kvs k with
   |none=>rfl
   |some v=>rw[ev]at q;exact q.elim
  have hl2:(putK kvs k z).length≤sizeLine:=by have:=iK kvs k z;omega
  obtain⟨q,es,ep,hq,h2,h3,h4,_,h5⟩:=dd';refine⟨z,upd H3 a (.dT (putK kvs k z)),yS (ob:=.dT (putK kvs k z)) I3 (by rw[e1];exact True.intro) hs ⟨q,hq⟩ ⟨hl2,hd,_,(rel.put k e2 rz).keeps λc ys ec=>?_,q,es,ep,hq,h2,h3,h4,h5⟩,rz,k2 ev⟩
  rw[ae (aF ec e1 (λz=>nomatch z))];exact ec
end
end L2
namespace LX
open PySem
section
variable {prog:Program}{w:World}{A:Around}{E:Value→Shared→Prop}{s:Shared}{env:Env}
variable {nm q:Str}{C N:Addr}{bs bm:List Value}{hdct:Bool}{sn:List Str}{sub:List Value}{ab:Bool}{col:Option Bool}{dd:Option Addr}{k0 k1 k2 k3 k5:Option Value}{newId:String}
theorem C7{e:Addr}{t:Expr}{b0:Stmt}{suite:List Stmt}{pos:Pos}{rest:List ExceptHandler}{Q:Flow→Shared→Prop}(hbase:bm.contains (.type "BaseException")=true)
  (h:wpAny (model prog w) (A.mark (some (.ref e))) (eval t env) (λc s1=>c=.ref C∧s1.heap.get? C=some (excClassObj nm q C N bs bm hdct sn sub ab col dd k0 k1 k2 k3 k5 newId)∧(∃oe,s1.heap.get? e=some oe∧oe.cls=.ref C)∧
   wpAny (model prog w) (A.mark (some (.ref e))) (setFlight (.ref e) none) (λ_ s2=>wpAny (model prog w) (A.mark (some (.ref e))) (execs (b0::suite) env) (λf s4=>Q f s4) (λ_ _=>False) s2) (λ_ _=>False) s1) (λ_ _=>False) s):
  wpAny (model prog w) A (handleBy (.ref e) env (.ExceptHandler (some t) none (b0::suite) pos::rest)) Q E s:=by
 refine wpAny_handleBy_cons (codeAny_handlers_test (wpAny_mono h (λc s1 h1=>?_) λ_ _ z=>z.elim)) (by intro z;cases z)
 obtain⟨rfl,hC,⟨oe,he,hcls⟩,hk⟩:=h1;obtain⟨hp,g,d,tk,os⟩:=s1;refine wpAny_excMatches_sub_self hC he hcls hbase (codeAny_handlers_suite ?_);exact wpAny_mono hk (λ_ s2 h2=>wpAny_mono h2 (λ_ _ z=>z) λ_ _ z=>z.elim) λ_ _ z=>z.elim
end
end LX
namespace L2
open PySem PySem.Spec PyProof.Rows LX
section
variable {X:Cx}{C:Addr}{B newId initId:String}{bm:List Value}{cx:Str}{np hpos pos:Pos}{body suite:List Stmt}{b0:Stmt}{tb:Ends→TS}{th:TS}
def Et0(C:Addr)(N:Nat)(th:TS)(D:Ends):XK:=λcls od H'=>cls=.ref C∧th D (List.replicate N none) H'
theorem zA{pins:List (Addr×Obj)}{D:Ends}(c:sJ X.K C B newId initId bm)(hex:X.ex=[])(hst:X.stack=X.env::X.outer)(hfr:X.env.frame=some X.env.locals)(hg:Gl X cx)(hm:X.mg cx=some (.ref C))
  (hh:∀e,PSs (Xh X e) (b0::suite) th)(hdb:(cx==("__debug__":Str))=false:=by decide):
  Passes (CXx X.prog X.w) (Xt X pins D [.ExceptHandler (some (.Name cx np)) none (b0::suite) hpos]) (Et0 C X.N.length th D):=by
 rintro pins' σ H s ev s' I0 ⟨e,C',dx,T,H',rfl,os,bare,un,hok,F,f1,f2,hE⟩;have I:Inv X pins σ H s:=ib I0;have I1:Inv X pins σ H' s':=I.Co (ch:=[]) os un hok bare (λ_ z=>nomatch z);obtain⟨⟨oe,vs,he,hc,hx,hd,hT⟩,hu,hTu⟩:=F;obtain⟨ec,hth⟩:=hE;obtain rfl:C'=C:=by injection ec
 show Jj X pins D _ (.ref e) s';refine A5 (base:=X.base) (by rw[I1.ok.frames,hst]) (by rw[←hst];exact I1.stack) hfr he hd hT λh1 T1 nt=>?_
 have fre:X.s_0.heap.get? e=none:=eS I hex f1;have npe:∀p∈X.pn++pins,p.1≠e∧p.1≠T:=λp hp=>⟨λz=>(by have:=(I.pin p hp).1;rw[z,f1]at this;cases this),λz=>(by have:=(I.pin p hp).1;rw[z,f2]at this;cases this)⟩
 have hTd:∃oT ts,s'.heap.get? T=some oT∧oT.data=.fields ts:=let⟨_,_,oT,ts,g,d,_⟩:=hT;⟨oT,ts,g,d⟩;have I2:Inv X pins σ H' {s' with heap:=h1}:=by
  refine sg (t':=s'.toks) (λb=>b=e∨b=T) I1 hex (λb o nz nf q=>nt.keep b o (λz=>nz (.inl z)) (λz=>nz (.inr (Option.some.inj z).symm)) (by rw[hst]at nf;exact nf) q) (λb o hb q=>nt.slot b o (by rw[hst]at hb;exact hb) q) (λb z=>?_) (λb z=>?_) (λb o z q=>?_) λp hp z=>?_
  ·rcases z with rfl|rfl
   ·exact fre
   ·exact eS I hex f2
  ·rcases z with rfl|rfl
   ·exact hu
   ·exact hTu _ rfl
  ·rcases z with rfl|rfl
   ·rw[he]at q;cases q;exact⟨vs,hd⟩
   ·obtain⟨oT,ts,g,d⟩:=hTd;rw[g]at q;cases q;exact⟨ts,d⟩
  ·rcases z with z|z
   ·exact(npe p hp).1 z
   ·exact(npe p hp).2 z
 obtain⟨nm,q,N,bs,sn,sub,ab,col,dd,k0,k1,k2,k3,k5,hK,_⟩:=c.obj;refine C7 (nm:=nm) (q:=q) (C:=C') (N:=N) (bs:=bs) (bm:=bm) (hdct:=true) (sn:=sn) (sub:=sub) (ab:=ab) (col:=col) (dd:=dd) (k0:=k0) (k1:=k1) (k2:=k2) (k3:=k3) (k5:=k5) (newId:=newId) c.base.hasBase ?_;refine km (X:=Xh X e) (Inv.xh I2 e) hg hm ?_ hdb;refine⟨rfl,I2.kIn _ _ hK,⟨_,nt.exc,(Obj.cls_mapFields _ _).trans hc⟩,?_⟩;obtain⟨oT,ts,gT,dT,h3⟩:=nt.head;have sz:=BH hT;have hd1:=Obj.data_mapFields hd (·.setIfInBounds 1 (Value.ref T1))
 have neT:e≠T1:=λz=>by have:=nt.new;rw[←z,he]at this;cases this
 refine we nt.exc hd1 (by simp[sz]) gT dT h3 λh2 kp hd2=>?_
 have I3:Inv X pins σ H' {s' with heap:=h2}:=by
  refine sg (s:={s' with heap:=h1}) (t':=s'.toks) (λb=>b=T1) I2 hex (λb o nz _ q=>kp b o nz q) (λb o hb q=>⟨o.slots,kp b o (λz=>?_) q⟩) (λb z=>?_) (λb z=>?_) (λb o z q=>?_) λp hp z=>?_
  ·subst z;obtain⟨_,o',ho',nf⟩:=I2.stack.mem hb;rw[show h1.get? b=some o' from ho']at gT;cases gT;exact nf ts dT
  ·subst z;exact eS I1 hex nt.new
  ·subst z;exact lz I1.hok nt.new
  ·subst z;rw[show h1.get? b=some o from q]at gT;cases gT;exact⟨ts,dT⟩
  ·have:=(I1.pin p hp).1;rw[z,nt.new]at this;cases this
 have I4:Inv X pins (List.replicate X.N.length none) H' {s' with heap:=h2}:=I3.weak (by rw[List.length_replicate,I3.len]) λj v z=>by
  rw[List.getElem?_replicate]at z
  split at z<;>cases z
 refine wpAny_mono ((hh e) pins _ _ _ D (Inv.xh I4 e) hth) (λf s5 q5=>?_) λ_ _ z=>z;cases f with
 |next=>
  obtain⟨σ5,H5,J,r⟩:=q5;exact⟨_,_,Inv.Ds J I.ok.hd,r⟩
 |brk=>
  obtain⟨σ5,H5,J,r⟩:=q5;exact⟨_,_,Inv.Ds J I.ok.hd,r⟩
 |cont=>
  obtain⟨σ5,H5,J,r⟩:=q5;exact⟨_,_,Inv.Ds J I.ok.hd,r⟩
 |ret u=>
  obtain⟨v,σ5,H5,J,rv,r⟩:=q5;exact⟨v,_,_,Inv.Ds J I.ok.hd,rv,r⟩
theorem FL(hb:∀pins D,PSs (Xt X pins D [.ExceptHandler (some (.Name cx np)) none (b0::suite) hpos]) body (tb D)):
  PS X (.Try body [.ExceptHandler (some (.Name cx np)) none (b0::suite) hpos] [] [] pos) (λD σ H=>tb D D σ H):=by
 intro pins s σ H D I h;refine wpAny_Try_except (wpAny_mono (hb pins D [] s σ H D (G5 I) h) (λf s1 q=>?_) λ_ _ z=>z);cases f with
 |next=>
  obtain⟨σ',H',I',q'⟩:=q;exact wpAny_execs_nil ⟨σ',H',ib I',q'⟩
 |ret v=>
  obtain⟨v',σ',H',I',r,q'⟩:=q;exact⟨v',σ',H',ib I',r,q'⟩
 |brk=>
  obtain⟨σ',H',I',q'⟩:=q;exact⟨σ',H',ib I',q'⟩
 |cont=>
  obtain⟨σ',H',I',q'⟩:=q;exact⟨σ',H',ib I',q'⟩
end
end L2
namespace W2
open PySem PySem.Spec PyProof.Rows L2 LX
abbrev NoX:XK:=λ_ _ _=>False
structure eU(P:Program)(w:World)(K:PySem.W.Frag)(mg:Str→Option Value)(base:Heap)(x:Str)(ps:List Str)(k:Nat)(sp:Sp):Prop where
 ex:∃(f:Addr)(fd:FuncData),mg x=some (.ref f)∧PySem.W.keepIn K (.ref f)=true∧Binds K fd ps []∧lM P w K mg base (CXx P w) k f fd ps sp
structure bU(P:Program)(w:World)(K:PySem.W.Frag)(mg:Str→Option Value)(base:Heap)(C:Addr)(m:Str)(ps:List Str)(k:Nat)(sp:Sp):Prop where
 cl:Cls K C
 ex:∃(f:Addr)(fd:FuncData),Meth K C m f∧Binds K fd ps []∧lM P w K mg base (CXx P w) k f fd ps sp
structure sM(P:Program)(w:World)(K:PySem.W.Frag)(mg:Str→Option Value)(base:Heap)(C:Addr)(x:Str)(ps:List Str)(k:Nat)(sp:Sp):Prop where
 ex:∃(f:Addr)(fd:FuncData),mg x=some (.ref C)∧Mk K C f∧Binds K fd ps []∧lM P w K mg base (CXx P w) k f fd ps sp
def Kn(mg:Str→Option Value)(x:Str)(v:V):Prop:=∃u,mg x=some u∧RelV v u
section
variable {X:Cx}{k j:Nat}{C:Addr}{ps:List Str}{sp:Sp}{E:XK}{x m:Str}{p pos apos:Pos}{e o:Expr}{es:List Expr}{ta:TE}{t:TA}{v:V}
theorem pg(h:Kn X.mg x v)(hg:Gl X x:=by rfl)(hd:(x==("__debug__":Str))=false:=by decide):PE X (.Name x pos) (tC v):=by
 obtain⟨u,h1,h2⟩:=h;exact FU hg h1 h2 hd
theorem pf(h:eU X.prog X.w X.K X.mg X.base x ps k sp)(hr:cJ j X.A)(hx:Passes (CXx X.prog X.w) X E)(ha:PA X (e::es) t)(hk:k≤j:=by decide)(hg:Gl X x:=by rfl)
  (hdb:(x==("__debug__":Str))=false:=by decide)(he:starEach (e::es) X.env=(false,eval e X.env)::starEach es X.env:=by rfl)(hpl:(backTo pos (starEach es X.env)).any (·.1)=false:=by rfl):
  PE X (.Call (.Name x p) (e::es) [] pos) (vk sp [] E t):=by
 obtain⟨f,fd,h1,h2,h3,h4⟩:=h.ex;exact FX h4 (hr.mono hk) hg h1 h2 h3 .nil hx ha hdb he hpl
theorem pf0(h:eU X.prog X.w X.K X.mg X.base x ps k sp)(hr:cJ j X.A)(hx:Passes (CXx X.prog X.w) X E)(hk:k≤j:=by decide)(hg:Gl X x:=by rfl)
  (hdb:(x==("__debug__":Str))=false:=by decide):PE X (.Call (.Name x p) [] [] pos) (vk sp [] E ij):=by
 obtain⟨f,fd,h1,h2,h3,h4⟩:=h.ex;exact Ee h4 (hr.mono hk) hg h1 h2 h3 .nil hx hdb
theorem pm{pl:Sem Bool}(h:bU X.prog X.w X.K X.mg X.base C m ps k sp)(hr:cJ j X.A)(hx:Passes (CXx X.prog X.w) X E)(he:PE X o ta)(ha:PA X (e::es) t)(hk:k≤j:=by decide)
  (hst:starEach (e::es) X.env=(false,eval e X.env)::starEach es X.env:=by rfl)(hpl:(backTo pos (starEach es X.env)).any (·.1)=false:=by rfl)
  (ht:eval (.Call (.Attribute o m apos) (e::es) [] pos) X.env=(do
   let ov←eval o X.env
   standAt apos.atName
   let(f,first)←holding [ov] (getMethod ov m pl)
   callWith pos f first (backTo pos (starEach (e::es) X.env)) (backToKw pos (keywordEach [] X.env))):=by rfl):
  PE X (.Call (.Attribute o m apos) (e::es) [] pos) (rk C m sp [] E ta t):=by
 obtain⟨f,fd,h1,h3,h4⟩:=h.ex;exact FR (pl:=pl) he h.cl h1 h4 (hr.mono hk) h3 .nil hx ha hst hpl ht
theorem pm0{pl:Sem Bool}(h:bU X.prog X.w X.K X.mg X.base C m ps k sp)(hr:cJ j X.A)(hx:Passes (CXx X.prog X.w) X E)(he:PE X o ta)(hk:k≤j:=by decide)
  (ht:eval (.Call (.Attribute o m apos) [] [] pos) X.env=(do
   let ov←eval o X.env
   standAt apos.atName
   let(f,first)←holding [ov] (getMethod ov m pl)
   callWith pos f first (backTo pos (starEach [] X.env)) (backToKw pos (keywordEach [] X.env))):=by rfl):
  PE X (.Call (.Attribute o m apos) [] [] pos) (rk C m sp [] E ta ij):=by
 obtain⟨f,fd,h1,h3,h4⟩:=h.ex;exact Ea (pl:=pl) he h.cl h1 h4 (hr.mono hk) h3 .nil hx ht
theorem pmk(h:sM X.prog X.w X.K X.mg X.base C x ps k sp)(hr:cJ j X.A)(hx:Passes (CXx X.prog X.w) X E)(ha:PA X (e::es) t)(hk:k+1≤j:=by decide)(hg:Gl X x:=by rfl)
  (hdb:(x==("__debug__":Str))=false:=by decide)(he:starEach (e::es) X.env=(false,eval e X.env)::starEach es X.env:=by rfl)(hpl:(backTo pos (starEach es X.env)).any (·.1)=false:=by rfl):
  PE X (.Call (.Name x p) (e::es) [] pos) (t6 C sp [] E t):=by
 obtain⟨f,fd,h1,h2,h3,h4⟩:=h.ex;exact FT h2 h4 (hr.mono hk) hg h1 h3 .nil hx ha hdb he hpl
theorem D8(h:sM X.prog X.w X.K X.mg X.base C x ps k sp)(hr:cJ j X.A)(hx:Passes (CXx X.prog X.w) X E)(hk:k+1≤j:=by decide)(hg:Gl X x:=by rfl)
  (hdb:(x==("__debug__":Str))=false:=by decide):PE X (.Call (.Name x p) [] [] pos) (t6 C sp [] E ij):=by
 obtain⟨f,fd,h1,h2,h3,h4⟩:=h.ex;exact Eb h2 h4 (hr.mono hk) hg h1 h3 .nil hx hdb
theorem nox:Passes (CXx X.prog X.w) X NoX:=CP
end
section
variable {P:Program}{w:World}{K:PySem.W.Frag}{mg:Str→Option Value}{base:Heap}
theorem wb{x qual:Str}{st:Stmt}{f:Addr}{fd:FuncData}{N ps:List Str}{k:Nat}{sp:Sp}(F:Fun K x qual st f fd)(S:aq N ps (aj st))(len:∀vs H Q E,sp vs H Q E→vs.length=ps.length)
  (jJ:∀(cdv:Value)(A:Around)(outer:List Env)(s:Shared)(H:Hp)(vs:List V)(Q:VK)(E:XK),cJ k (A.deeper (envOfC qual (aj st) s.heap.objs.size f cdv))→sp vs H Q E→
   ∃t,PSs (aM (CXx P w) P w K mg base N qual (aj st) f cdv A outer s H E) (eW st) t∧t {nx:=λ_ H'=>Q .non H',rt:=Q} (start N vs) H):lM P w K mg base (CXx P w) (k+1) f fd ps sp:=by
 obtain⟨oc,od,kV,doc,pm,an,cdv,ct,osl,rfl,lk,hcd⟩:=F.ex;exact Kk lk hcd S len λA outer s H vs Q E hr hsp=>jJ cdv A outer s H vs Q E hr hsp
structure eD(K:PySem.W.Frag)(mg:Str→Option Value)(x:Str)(st:Stmt)(ps:List Str):Prop where
 ex:∃(f:Addr)(fd:FuncData),mg x=some (.ref f)∧Fun K x x st f fd∧Binds K fd ps []
structure bS(K:PySem.W.Frag)(C:Addr)(x qual:Str)(st:Stmt)(ps:List Str):Prop where
 cl:Cls K C
 ex:∃(f:Addr)(fd:FuncData),Meth K C x f∧Fun K x qual st f fd∧Binds K fd ps []
structure sL(K:PySem.W.Frag)(mg:Str→Option Value)(C:Addr)(x qual:Str)(st:Stmt)(ps:List Str):Prop where
 cl:Cls K C
 ex:∃(f:Addr)(fd:FuncData),mg x=some (.ref C)∧Mk K C f∧Fun K "__init__" qual st f fd∧Binds K fd ps []
theorem eD.has{x:Str}{st:Stmt}{N ps:List Str}{k:Nat}{sp:Sp}(T:eD K mg x st ps)(S:aq N ps (aj st))(len:∀vs H Q E,sp vs H Q E→vs.length=ps.length)
  (jJ:∀(f:Addr)(cdv:Value)(A:Around)(outer:List Env)(s:Shared)(H:Hp)(vs:List V)(Q:VK)(E:XK),cJ k (A.deeper (envOfC x (aj st) s.heap.objs.size f cdv))→sp vs H Q E→
   ∃t,PSs (aM (CXx P w) P w K mg base N x (aj st) f cdv A outer s H E) (eW st) t∧t {nx:=λ_ H'=>Q .non H',rt:=Q} (start N vs) H):eU P w K mg base x ps (k+1) sp:=by
 obtain⟨f,fd,h1,h2,h3⟩:=T.ex;exact⟨f,fd,h1,h2.kp,h3,wb h2 S len (jJ f)⟩
theorem bS.has{C:Addr}{x qual:Str}{st:Stmt}{N ps:List Str}{k:Nat}{sp:Sp}(T:bS K C x qual st ps)(S:aq N ps (aj st))(len:∀vs H Q E,sp vs H Q E→vs.length=ps.length)
  (jJ:∀(f:Addr)(cdv:Value)(A:Around)(outer:List Env)(s:Shared)(H:Hp)(vs:List V)(Q:VK)(E:XK),cJ k (A.deeper (envOfC qual (aj st) s.heap.objs.size f cdv))→sp vs H Q E→
   ∃t,PSs (aM (CXx P w) P w K mg base N qual (aj st) f cdv A outer s H E) (eW st) t∧t {nx:=λ_ H'=>Q .non H',rt:=Q} (start N vs) H):bU P w K mg base C x ps (k+1) sp:=by
 obtain⟨f,fd,h1,h2,h3⟩:=T.ex;exact⟨T.cl,f,fd,h1,h3,wb h2 S len (jJ f)⟩
theorem sL.has{C:Addr}{x qual:Str}{st:Stmt}{N ps:List Str}{k:Nat}{sp:Sp}(T:sL K mg C x qual st ps)(S:aq N ps (aj st))(len:∀vs H Q E,sp vs H Q E→vs.length=ps.length)
  (jJ:∀(f:Addr)(cdv:Value)(A:Around)(outer:List Env)(s:Shared)(H:Hp)(vs:List V)(Q:VK)(E:XK),cJ k (A.deeper (envOfC qual (aj st) s.heap.objs.size f cdv))→sp vs H Q E→
   ∃t,PSs (aM (CXx P w) P w K mg base N qual (aj st) f cdv A outer s H E) (eW st) t∧t {nx:=λ_ H'=>Q .non H',rt:=Q} (start N vs) H):sM P w K mg base C x ps (k+1) sp:=by
 obtain⟨f,fd,h1,h2,h3,h4⟩:=T.ex;exact⟨f,fd,h1,h2,h4,wb h3 S len (jJ f)⟩
end
abbrev Dr:List Value:=[.type "ValueError",.type "Exception",.type "BaseException",.type "object"]
structure Jk(P:Program)(w:World)(K:PySem.W.Frag)(mg:Str→Option Value)(base:Heap)(C:Addr)(x:Str)(ps:List Str)(k:Nat)(sp:Sp):Prop where
 xc:sJ K C "ValueError" "ValueError.__new__" "ValueError.__init__" Dr
 ex:∃(f:Addr)(fd:FuncData),mg x=some (.ref C)∧E5 K C f "ValueError.__new__" Dr∧Binds K fd ps []∧lM P w K mg base (CXx P w) k f fd ps sp
structure GB(K:PySem.W.Frag)(mg:Str→Option Value)(C:Addr)(x qual:Str)(st:Stmt)(ps:List Str):Prop where
 xc:sJ K C "ValueError" "ValueError.__new__" "ValueError.__init__" Dr
 mgx:mg x=some (.ref C)
 ex:∃(f:Addr)(fd:FuncData),E5 K C f "ValueError.__new__" Dr∧Fun K "__init__" qual st f fd∧Binds K fd ps []
section
variable {P:Program}{w:World}{K:PySem.W.Frag}{mg:Str→Option Value}{base:Heap}
theorem GB.has{C:Addr}{x qual:Str}{st:Stmt}{N ps:List Str}{k:Nat}{sp:Sp}(T:GB K mg C x qual st ps)(S:aq N ps (aj st))(len:∀vs H Q E,sp vs H Q E→vs.length=ps.length)
  (jJ:∀(f:Addr)(cdv:Value)(A:Around)(outer:List Env)(s:Shared)(H:Hp)(vs:List V)(Q:VK)(E:XK),cJ k (A.deeper (envOfC qual (aj st) s.heap.objs.size f cdv))→sp vs H Q E→
   ∃t,PSs (aM (CXx P w) P w K mg base N qual (aj st) f cdv A outer s H E) (eW st) t∧t {nx:=λ_ H'=>Q .non H',rt:=Q} (start N vs) H):Jk P w K mg base C x ps (k+1) sp:=by
 obtain⟨f,fd,h1,h2,h3⟩:=T.ex;exact⟨T.xc,f,fd,T.mgx,h1,h3,wb h2 S len (jJ f)⟩
end
section
variable {X:Cx}{k j:Nat}{C:Addr}{ps:List Str}{sp:Sp}{E:XK}{x:Str}{np cpos pos:Pos}{e:Expr}{es:List Expr}{t:TA}
theorem yn(h:Jk X.prog X.w X.K X.mg X.base C x ps k sp)(hr:cJ j X.A)(hR:Raises X E)(ha:PA X (e::es) t)(hk:k+1≤j:=by decide)(hcalm:X.calm=true:=by rfl)(hex:X.ex=[]:=by rfl)(hg:Gl X x:=by rfl)
  (hdb:(x==("__debug__":Str))=false:=by decide)(he:starEach (e::es) X.env=(false,eval e X.env)::starEach es X.env:=by rfl)
  (hpl:(backTo cpos (starEach es X.env)).any (·.1)=false:=by rfl):PS X (.Raise (some (.Call (.Name x np) (e::es) [] cpos)) none pos) (Az C sp E t):=by
 obtain⟨f,fd,h1,h2,h3,h4⟩:=h.ex;exact D4 h.xc h2 h4 (hr.mono hk) hg h1 h3 hcalm hex hR ha hdb he hpl
end
theorem ao{H:Hp}{p:Addr}{o:HO}(h:H p=none):aE H (upd H p o):=λb u e=>by rw[ae (aw e h)];exact e
def top(i:Nat):Stmt:=PySem.Challenge.pw_escapedplaces_s01_answers.main.body.getD i (.Pass ⟨0,0,0,0⟩)
structure Cs where
 (Fault Token Scanner Thing Piece PieceReader Text Scope Store Walk Engine CallReader:Addr)
abbrev t8:Stmt:=top 17
abbrev vy:Stmt:=top 18
abbrev vz:Stmt:=top 19
abbrev fk:Stmt:=top 20
abbrev k7:Stmt:=top 21
abbrev tp:Stmt:=top 22
abbrev pT:Stmt:=top 29
abbrev t9:Stmt:=top 30
abbrev ua:Stmt:=top 31
abbrev il:Stmt:=top 32
abbrev g7:Stmt:=top 35
abbrev iQ:Stmt:=top 36
abbrev jq:Stmt:=top 37
abbrev iP:Stmt:=top 38
abbrev jX:Stmt:=top 39
abbrev jo:Stmt:=top 40
abbrev mI:Stmt:=top 56
abbrev pR:Stmt:=top 57
abbrev pQ:Stmt:=top 61
abbrev mJ:Stmt:=top 71
abbrev qJ:Stmt:=top 72
abbrev mH:Stmt:=top 80
abbrev vx:Stmt:=top 81
abbrev pS:Stmt:=top 85
abbrev tj:Stmt:=top 86
abbrev xk:Stmt:=top 87
abbrev pU:Stmt:=top 106
abbrev k8:Stmt:=top 107
abbrev mL:Stmt:=top 108
abbrev tq:Stmt:=top 109
abbrev rF:Stmt:=inClass (top 53) 0
abbrev rA:Stmt:=inClass (top 54) 0
abbrev nR:Stmt:=inClass (top 55) 0
abbrev nP:Stmt:=inClass (top 55) 1
abbrev j3:Stmt:=inClass (top 55) 2
abbrev nQ:Stmt:=inClass (top 55) 3
abbrev nO:Stmt:=inClass (top 55) 4
abbrev iq:Stmt:=inClass (top 55) 5
abbrev fU:Stmt:=inClass (top 55) 6
abbrev fo:Stmt:=inClass (top 55) 7
abbrev gE:Stmt:=inClass (top 55) 8
abbrev eh:Stmt:=inClass (top 55) 9
abbrev fm:Stmt:=inClass (top 55) 10
abbrev cH:Stmt:=inClass (top 55) 11
abbrev cU:Stmt:=inClass (top 55) 12
abbrev dJ:Stmt:=inClass (top 55) 13
abbrev cC:Stmt:=inClass (top 55) 14
abbrev gF:Stmt:=inClass (top 55) 15
abbrev c8:Stmt:=inClass (top 55) 16
abbrev dI:Stmt:=inClass (top 55) 17
abbrev cT:Stmt:=inClass (top 55) 18
abbrev rB:Stmt:=inClass (top 60) 0
abbrev rE:Stmt:=inClass (top 69) 0
abbrev jv:Stmt:=inClass (top 70) 0
abbrev ju:Stmt:=inClass (top 70) 1
abbrev eJ:Stmt:=inClass (top 70) 2
abbrev fq:Stmt:=inClass (top 70) 3
abbrev fu:Stmt:=inClass (top 70) 4
abbrev gG:Stmt:=inClass (top 70) 5
abbrev ud:Stmt:=inClass (top 78) 0
abbrev rD:Stmt:=inClass (top 79) 0
abbrev rC:Stmt:=inClass (top 82) 0
abbrev j0:Stmt:=inClass (top 82) 1
abbrev gC:Stmt:=inClass (top 82) 2
abbrev jZ:Stmt:=inClass (top 82) 3
abbrev dH:Stmt:=inClass (top 82) 4
abbrev k9:Stmt:=inClass (top 82) 5
abbrev j1:Stmt:=inClass (top 82) 6
abbrev jt:Stmt:=inClass (top 82) 7
abbrev uc:Stmt:=inClass (top 84) 0
abbrev ub:Stmt:=inClass (top 84) 1
abbrev jY:Stmt:=inClass (top 84) 2
abbrev jr:Stmt:=inClass (top 84) 3
abbrev pV:Stmt:=inClass (top 92) 0
abbrev bx:Stmt:=inClass (top 92) 1
abbrev gJ:Stmt:=inClass (top 92) 2
abbrev i0:Stmt:=inClass (top 92) 3
abbrev iu:Stmt:=inClass (top 92) 4
abbrev gI:Stmt:=inClass (top 92) 5
abbrev iZ:Stmt:=inClass (top 92) 6
abbrev gH:Stmt:=inClass (top 92) 7
abbrev ir:Stmt:=inClass (top 92) 8
abbrev fV:Stmt:=inClass (top 92) 9
abbrev iw:Stmt:=inClass (top 92) 10
abbrev bJ:Stmt:=inClass (top 92) 11
abbrev bI:Stmt:=inClass (top 92) 12
abbrev j4:Stmt:=inClass (top 105) 0
abbrev iy:Stmt:=inClass (top 105) 1
abbrev eK:Stmt:=inClass (top 105) 2
abbrev gK:Stmt:=inClass (top 105) 3
structure Txt(K:PySem.W.Frag)(mg:Str→Option Value)(c:Cs):Prop where
 jR:Kn mg "LONGEST_NAME" (.int 32)
 xU:Kn mg "NO_BYTE" (.int 256)
 Bn:Kn mg "BANG" (.int 33)
 gx:Kn mg "DOUBLE_QUOTE" (.int 34)
 iN:Kn mg "AMPERSAND" (.int 38)
 jP:Kn mg "SINGLE_QUOTE" (.int 39)
 Bm:Kn mg "STAR" (.int 42)
 Am:Kn mg "HYPHEN" (.int 45)
 yV:Kn mg "SLASH" (.int 47)
 yX:Kn mg "LESS" (.int 60)
 An:Kn mg "EQUALS" (.int 61)
 pA:Kn mg "GREATER" (.int 62)
 wA:Kn mg "QUESTION" (.int 63)
 sA:Kn mg "UNDERSCORE" (.int 95)
 iW:Kn mg "OPENING_BRACE" (.int 123)
 iX:Kn mg "CLOSING_BRACE" (.int 125)
 rf:Kn mg "TEXT" (.int 1)
 dh:Kn mg "DOUBLE_QUOTED" (.int 2)
 eX:Kn mg "SINGLE_QUOTED" (.int 3)
 gy:Kn mg "BEHIND_BLANK" (.int 4)
 jT:Kn mg "BEHIND_VALUE" (.int 5)
 mY:Kn mg "MOST_SECTIONS" (.int 16)
 qw:Kn mg "OPENING_TAG" (.int 2)
 lI:Kn mg "ATTRIBUTE_NAME" (.int 3)
 kC:Kn mg "ATTRIBUTE_VALUE" (.int 4)
 qx:Kn mg "CLOSING_TAG" (.int 5)
 mD:Kn mg "PLAIN_BYTE" (.int 6)
 kx:Kn mg "REFERENCE" (.int 7)
 eZ:Kn mg "DOUBLED_BRACE" (.int 8)
 yY:Kn mg "HOLE" (.int 9)
 eY:Kn mg "SECTION_BEGIN" (.int 10)
 ig:Kn mg "SECTION_END" (.int 11)
 oQ:Kn mg "TOLD_TEXT" (.int 1)
 wC:Kn mg "COPIED" (.int 1)
 sD:Kn mg "FILLED" (.int 2)
 yW:Kn mg "LOOP" (.int 3)
 wB:Kn mg "IF_THERE" (.int 4)
 mE:Kn mg "IF_MISSING" (.int 5)
 EX:Kn mg "END" (.int 6)
 oU:Kn mg "LONGEST_TEXT" (.int 64)
 kz:Kn mg "MOST_OPEN_ITEMS" (.int 16)
 oS:Kn mg "MOST_ENTRIES" (.int 32)
 sC:Kn mg "MOST_BYTES" (.int 512)
 jQ:Kn mg "LONGEST_TEMPLATE" (.int 256)
 hU:Kn mg "LONGEST_MARKUP" (.int 1024)
 lH:Kn mg "LONGEST_RENDER" (.int 4096)
 jS:Kn mg "COMPILE_CALL" (.int 0)
 mF:Kn mg "CLEAR_CALL" (.int 1)
 rg:Kn mg "PUT_CALL" (.int 2)
 oR:Kn mg "OPEN_CALL" (.int 3)
 sF:Kn mg "CLOSE_CALL" (.int 4)
 uC:Kn mg "SIZE_CALL" (.int 5)
 qv:Kn mg "RENDER_CALL" (.int 6)
 uD:Kn mg "HOLE_CALL" (.int 7)
 sG:Kn mg "CHECK_CALL" (.int 8)
 sE:Kn mg "EVENT_CALL" (.int 9)
 b8:mg "len"=none
 ve:mg "tuple"=none
 Ap:mg "ord"=none
 Ha:mg "all"=none
 G8:mg "sum"=none
 G9:mg "min"=none
 rh:mg "reversed"=none
 uz:eD K mg "is_letter" t8 ["byte"]
 wj:eD K mg "is_digit" vy ["byte"]
 wk:eD K mg "is_blank" vz ["byte"]
 fK:eD K mg "continues_markup_name" fk ["byte"]
 lD:eD K mg "continues_name" k7 ["byte"]
 xN:eD K mg "is_name" tp ["row"]
 qt:eD K mg "is_in_value" pT ["kind"]
 uA:eD K mg "is_in_tag" t9 ["kind"]
 uB:eD K mg "end_quote" ua ["kind"]
 iM:eD K mg "place_behind_quote" il ["quote"]
 lB:eD K mg "reference_ends" g7 []
 mU:eD K mg "reference_row" iQ ["end"]
 oM:eD K mg "reference_to" jq ["byte"]
 mT:eD K mg "referred_byte" iP ["reference"]
 kq:eD K mg "would_break_out" jX ["byte","kind"]
 jL:eD K mg "written_in_place" jo ["text","kind"]
 mS:eD K mg "scan_template" mI ["template"]
 qp:eD K mg "scan_markup" pR ["markup"]
 qo:eD K mg "told_things" pQ ["markup"]
 mV:eD K mg "read_template" mJ ["template"]
 wm:eD K mg "holes_of" qJ ["pieces"]
 mR:eD K mg "written_value" mH ["scopes","key","kind"]
 wg:eD K mg "is_there" vx ["scopes","key"]
 qr:eD K mg "output_rows" pS ["pieces","outermost"]
 xM:eD K mg "size_of" tj ["rows"]
 xO:eD K mg "cut_out" xk ["rows","from_place","most"]
 qu:eD K mg "answer_call" pU ["engine","reader"]
 lE:eD K mg "answer_telling" k8 ["engine","reader","call"]
 mW:eD K mg "answer_asking" mL ["engine","reader","call"]
 xP:eD K mg "answers" tq ["calls"]
 ic:sL K mg c.Token "Token" "Token.__init__" rA ["self","what","kind","begin","end"]
 rY:∀f∈(["what","kind","begin","end"]:List Str),au K c.Token f
 bF:sL K mg c.Scanner "Scanner" "Scanner.__init__" nR ["self","row","is_template"]
 oA:bS K c.Scanner "peek" "Scanner.peek" nP ["self"]
 kh:bS K c.Scanner "take_if" "Scanner.take_if" j3 ["self","allowed"]
 oB:bS K c.Scanner "note" "Scanner.note" nQ ["self","what","begin"]
 oz:bS K c.Scanner "scan" "Scanner.scan" nO ["self"]
 iF:bS K c.Scanner "take_piece" "Scanner.take_piece" iq ["self"]
 gi:bS K c.Scanner "take_in_text" "Scanner.take_in_text" fU ["self"]
 fD:bS K c.Scanner "take_in_value" "Scanner.take_in_value" fo ["self"]
 gN:bS K c.Scanner "take_in_tag" "Scanner.take_in_tag" gE ["self"]
 eu:bS K c.Scanner "take_plain_byte" "Scanner.take_plain_byte" eh ["self"]
 fC:bS K c.Scanner "take_tag_name" "Scanner.take_tag_name" fm ["self"]
 cI:bS K c.Scanner "take_blank_or_tag_end" "Scanner.take_blank_or_tag_end" cH ["self"]
 cW:bS K c.Scanner "take_attribute_name" "Scanner.take_attribute_name" cU ["self"]
 dU:bS K c.Scanner "take_markup_name" "Scanner.take_markup_name" dJ ["self","what"]
 eP:bS K c.Scanner "take_reference" "Scanner.take_reference" cC ["self"]
 gO:bS K c.Scanner "take_braces" "Scanner.take_braces" gF ["self"]
 df:bS K c.Scanner "take_section_begin" "Scanner.take_section_begin" c8 ["self","begin"]
 dS:bS K c.Scanner "take_section_end" "Scanner.take_section_end" dI ["self","begin"]
 cV:bS K c.Scanner "take_name_and_brace" "Scanner.take_name_and_brace" cT ["self"]
 g9:∀f∈(["row","is_template","place","kind","sections","tokens"]:List Str),au K c.Scanner f
 ph:sL K mg c.Thing "Thing" "Thing.__init__" rB ["self","what","row"]
 yC:∀f∈(["what","row"]:List Str),au K c.Thing f
 d9:sL K mg c.Piece "Piece" "Piece.__init__" rE ["self","what","kind","row"]
 pb:∀f∈(["what","kind","row","key","partner"]:List Str),au K c.Piece f
 b7:sL K mg c.PieceReader "PieceReader" "PieceReader.__init__" jv ["self","template"]
 jG:bS K c.PieceReader "read" "PieceReader.read" ju ["self"]
 eQ:bS K c.PieceReader "add_copied" "PieceReader.add_copied" eJ ["self","begin","end"]
 fF:bS K c.PieceReader "add_token" "PieceReader.add_token" fq ["self","token"]
 fG:bS K c.PieceReader "add_begin" "PieceReader.add_begin" fu ["self","token"]
 gP:bS K c.PieceReader "add_end" "PieceReader.add_end" gG ["self","token"]
 ia:∀f∈(["template","pieces","begun"]:List Str),au K c.PieceReader f
 tR:sL K mg c.Text "Text" "Text.__init__" ud ["self","row"]
 AU:∀f∈(["length","written"]:List Str),au K c.Text f
 pj:sL K mg c.Scope "Scope" "Scope.__init__" rD ["self"]
 yD:∀f∈(["texts","lists"]:List Str),au K c.Scope f
 ie:sL K mg c.Store "Store" "Store.__init__" rC ["self"]
 kf:bS K c.Store "outermost" "Store.outermost" j0 ["self"]
 gM:bS K c.Store "has_open_item" "Store.has_open_item" gC ["self"]
 ke:bS K c.Store "take_room" "Store.take_room" jZ ["self","more_entries","more_bytes"]
 dR:bS K c.Store "take_room_for_text" "Store.take_room_for_text" dH ["self","key","row"]
 ly:bS K c.Store "put_text" "Store.put_text" k9 ["self","name","row"]
 kg:bS K c.Store "open_item" "Store.open_item" j1 ["self","name"]
 jF:bS K c.Store "close_item" "Store.close_item" jt ["self"]
 u9:∀f∈(["trail","entry_count","byte_count"]:List Str),au K c.Store f
 gm:sL K mg c.Walk "Walk" "Walk.__init__" uc ["self","pieces","outermost"]
 ur:bS K c.Walk "walk" "Walk.walk" ub ["self"]
 j9:bS K c.Walk "begin_loop" "Walk.begin_loop" jY ["self","piece"]
 jE:bS K c.Walk "end_section" "Walk.end_section" jr ["self","piece"]
 tK:∀f∈(["pieces","place","scopes","coming","rows"]:List Str),au K c.Walk f
 iL:sL K mg c.Engine "Engine" "Engine.__init__" pV ["self"]
 fH:bS K c.Engine "answer_compile" "Engine.answer_compile" bx ["self","template"]
 gU:bS K c.Engine "answer_clear" "Engine.answer_clear" gJ ["self"]
 i5:bS K c.Engine "answer_put" "Engine.answer_put" i0 ["self","name","row"]
 iH:bS K c.Engine "answer_open" "Engine.answer_open" iu ["self","name"]
 gS:bS K c.Engine "answer_close" "Engine.answer_close" gI ["self"]
 i4:bS K c.Engine "has_output" "Engine.has_output" iZ ["self"]
 gQ:bS K c.Engine "whole_output" "Engine.whole_output" gH ["self"]
 iG:bS K c.Engine "answer_size" "Engine.answer_size" ir ["self"]
 gj:bS K c.Engine "answer_render" "Engine.answer_render" fV ["self","from_place","count"]
 iI:bS K c.Engine "answer_hole" "Engine.answer_hole" iw ["self","number"]
 gW:bS K c.Engine "answer_check" "Engine.answer_check" bJ ["self","markup"]
 gR:bS K c.Engine "answer_event" "Engine.answer_event" bI ["self","number","markup"]
 vU:∀f∈(["pieces","store"]:List Str),au K c.Engine f
 c0:sL K mg c.CallReader "CallReader" "CallReader.__init__" j4 ["self","calls"]
 iJ:bS K c.CallReader "is_done" "CallReader.is_done" iy ["self"]
 eR:bS K c.CallReader "read_number" "CallReader.read_number" eK ["self"]
 gX:bS K c.CallReader "read_row" "CallReader.read_row" gK ["self"]
 mz:∀f∈(["calls","place"]:List Str),au K c.CallReader f
 fM:GB K mg c.Fault "Fault" "Fault.__init__" rF ["self","place"]
 rP:PySem.W.findIn K (.ref c.Fault) "place"=some none
 refs:∃a a1 a2 a3 a4 a5:Addr,Kn mg "REFERENCES" (.ref a)∧∀H,SqT K H a [.ref a1,.ref a2,.ref a3,.ref a4,.ref a5]∧SqT K H a1 [.str "lt;",.str "<"]∧SqT K H a2 [.str "gt;",.str ">"]∧SqT K H a3 [.str "amp;",.str "&"]∧SqT K H a4 [.str "quot;",.str "\""]∧SqT K H a5 [.str "apos;",.str "'"]theorem sc_is_letter:aq ["byte"] ["byte"] (aj t8):=⟨rfl,rfl,rfl,by decide+kernel,rfl,by decide+kernel,by decide+kernel⟩
theorem zm:aq ["byte"] ["byte"] (aj vy):=⟨rfl,rfl,rfl,by decide+kernel,rfl,by decide+kernel,by decide+kernel⟩
theorem zo:aq ["byte"] ["byte"] (aj vz):=⟨rfl,rfl,rfl,by decide+kernel,rfl,by decide+kernel,by decide+kernel⟩
theorem kF:aq ["byte"] ["byte"] (aj fk):=⟨rfl,rfl,rfl,by decide+kernel,rfl,by decide+kernel,by decide+kernel⟩
theorem ro:aq ["byte"] ["byte"] (aj k7):=⟨rfl,rfl,rfl,by decide+kernel,rfl,by decide+kernel,by decide+kernel⟩
theorem qF:aq ["row","byte"] ["row"] (aj tp):=⟨rfl,rfl,rfl,by decide+kernel,rfl,by decide+kernel,by decide+kernel⟩
theorem vv:aq ["kind"] ["kind"] (aj pT):=⟨rfl,rfl,rfl,by decide+kernel,rfl,by decide+kernel,by decide+kernel⟩
theorem yg:aq ["kind"] ["kind"] (aj t9):=⟨rfl,rfl,rfl,by decide+kernel,rfl,by decide+kernel,by decide+kernel⟩
theorem yh:aq ["kind"] ["kind"] (aj ua):=⟨rfl,rfl,rfl,by decide+kernel,rfl,by decide+kernel,by decide+kernel⟩
theorem m6:aq ["quote"] ["quote"] (aj il):=⟨rfl,rfl,rfl,by decide+kernel,rfl,by decide+kernel,by decide+kernel⟩
theorem dn:aq ["end","sign"] [] (aj g7):=⟨rfl,rfl,rfl,by decide+kernel,rfl,by decide+kernel,by decide+kernel⟩
theorem gY:aq ["end","sign"] ["end"] (aj iQ):=⟨rfl,rfl,rfl,by decide+kernel,rfl,by decide+kernel,by decide+kernel⟩
theorem eV:aq ["byte","end","sign"] ["byte"] (aj jq):=⟨rfl,rfl,rfl,by decide+kernel,rfl,by decide+kernel,by decide+kernel⟩
theorem d5:aq ["reference","end","sign"] ["reference"] (aj iP):=⟨rfl,rfl,rfl,by decide+kernel,rfl,by decide+kernel,by decide+kernel⟩
theorem qD:aq ["byte","kind"] ["byte","kind"] (aj jX):=⟨rfl,rfl,rfl,by decide+kernel,rfl,by decide+kernel,by decide+kernel⟩
theorem eA:aq ["text","kind","row","byte"] ["text","kind"] (aj jo):=⟨rfl,rfl,rfl,by decide+kernel,rfl,by decide+kernel,by decide+kernel⟩
theorem sY:aq ["template"] ["template"] (aj mI):=⟨rfl,rfl,rfl,by decide+kernel,rfl,by decide+kernel,by decide+kernel⟩
theorem vq:aq ["markup"] ["markup"] (aj pR):=⟨rfl,rfl,rfl,by decide+kernel,rfl,by decide+kernel,by decide+kernel⟩
theorem fP:aq ["markup","things","token","row"] ["markup"] (aj pQ):=⟨rfl,rfl,rfl,by decide+kernel,rfl,by decide+kernel,by decide+kernel⟩
theorem sZ:aq ["template"] ["template"] (aj mJ):=⟨rfl,rfl,rfl,by decide+kernel,rfl,by decide+kernel,by decide+kernel⟩
theorem nJ:aq ["pieces","piece"] ["pieces"] (aj qJ):=⟨rfl,rfl,rfl,by decide+kernel,rfl,by decide+kernel,by decide+kernel⟩
theorem kZ:aq ["scopes","key","kind","scope"] ["scopes","key","kind"] (aj mH):=⟨rfl,rfl,rfl,by decide+kernel,rfl,by decide+kernel,by decide+kernel⟩
theorem t7:aq ["scopes","key","scope"] ["scopes","key"] (aj vx):=⟨rfl,rfl,rfl,by decide+kernel,rfl,by decide+kernel,by decide+kernel⟩
theorem vt:aq ["pieces","outermost"] ["pieces","outermost"] (aj pS):=⟨rfl,rfl,rfl,by decide+kernel,rfl,by decide+kernel,by decide+kernel⟩
theorem qE:aq ["rows","row"] ["rows"] (aj tj):=⟨rfl,rfl,rfl,by decide+kernel,rfl,by decide+kernel,by decide+kernel⟩
theorem gZ:aq ["rows","from_place","most","told","to_skip","row"] ["rows","from_place","most"] (aj xk):=⟨rfl,rfl,rfl,by decide+kernel,rfl,by decide+kernel,by decide+kernel⟩
theorem nL:aq ["engine","reader","call"] ["engine","reader"] (aj pU):=⟨rfl,rfl,rfl,by decide+kernel,rfl,by decide+kernel,by decide+kernel⟩
theorem fQ:aq ["engine","reader","call","name","row"] ["engine","reader","call"] (aj k8):=⟨rfl,rfl,rfl,by decide+kernel,rfl,by decide+kernel,by decide+kernel⟩
theorem d6:aq ["engine","reader","call","from_place","count","number"] ["engine","reader","call"] (aj mL):=⟨rfl,rfl,rfl,by decide+kernel,rfl,by decide+kernel,by decide+kernel⟩
theorem jl:aq ["calls","engine","reader","told","answer"] ["calls"] (aj tq):=⟨rfl,rfl,rfl,by decide+kernel,rfl,by decide+kernel,by decide+kernel⟩
theorem wO:aq ["self","place"] ["self","place"] (aj rF):=⟨rfl,rfl,rfl,by decide+kernel,rfl,by decide+kernel,by decide+kernel⟩
theorem wJ:aq ["self","what","kind","begin","end"] ["self","what","kind","begin","end"] (aj rA):=⟨rfl,rfl,rfl,by decide+kernel,rfl,by decide+kernel,by decide+kernel⟩
theorem uM:aq ["self","row","is_template"] ["self","row","is_template"] (aj nR):=⟨rfl,rfl,rfl,by decide+kernel,rfl,by decide+kernel,by decide+kernel⟩
theorem uK:aq ["self"] ["self"] (aj nP):=⟨rfl,rfl,rfl,by decide+kernel,rfl,by decide+kernel,by decide+kernel⟩
theorem qH:aq ["self","allowed"] ["self","allowed"] (aj j3):=⟨rfl,rfl,rfl,by decide+kernel,rfl,by decide+kernel,by decide+kernel⟩
theorem uL:aq ["self","what","begin"] ["self","what","begin"] (aj nQ):=⟨rfl,rfl,rfl,by decide+kernel,rfl,by decide+kernel,by decide+kernel⟩
theorem uJ:aq ["self"] ["self"] (aj nO):=⟨rfl,rfl,rfl,by decide+kernel,rfl,by decide+kernel,by decide+kernel⟩
theorem m7:aq ["self"] ["self"] (aj iq):=⟨rfl,rfl,rfl,by decide+kernel,rfl,by decide+kernel,by decide+kernel⟩
theorem fi:aq ["self","byte"] ["self"] (aj fU):=⟨rfl,rfl,rfl,by decide+kernel,rfl,by decide+kernel,by decide+kernel⟩
theorem eI:aq ["self","byte"] ["self"] (aj fo):=⟨rfl,rfl,rfl,by decide+kernel,rfl,by decide+kernel,by decide+kernel⟩
theorem lS:aq ["self"] ["self"] (aj gE):=⟨rfl,rfl,rfl,by decide+kernel,rfl,by decide+kernel,by decide+kernel⟩
theorem dG:aq ["self","begin"] ["self"] (aj eh):=⟨rfl,rfl,rfl,by decide+kernel,rfl,by decide+kernel,by decide+kernel⟩
theorem kG:aq ["self"] ["self"] (aj fm):=⟨rfl,rfl,rfl,by decide+kernel,rfl,by decide+kernel,by decide+kernel⟩
theorem cw:aq ["self","byte"] ["self"] (aj cH):=⟨rfl,rfl,rfl,by decide+kernel,rfl,by decide+kernel,by decide+kernel⟩
theorem cP:aq ["self","quote"] ["self"] (aj cU):=⟨rfl,rfl,rfl,by decide+kernel,rfl,by decide+kernel,by decide+kernel⟩
theorem dv:aq ["self","what","begin"] ["self","what"] (aj dJ):=⟨rfl,rfl,rfl,by decide+kernel,rfl,by decide+kernel,by decide+kernel⟩
theorem a7:aq ["self","begin","ends","byte","end"] ["self"] (aj cC):=⟨rfl,rfl,rfl,by decide+kernel,rfl,by decide+kernel,by decide+kernel⟩
theorem bo:aq ["self","begin","in_tag","may_begin","may_end","byte"] ["self"] (aj gF):=⟨rfl,rfl,rfl,by decide+kernel,rfl,by decide+kernel,by decide+kernel⟩
theorem ik:aq ["self","begin"] ["self","begin"] (aj c8):=⟨rfl,rfl,rfl,by decide+kernel,rfl,by decide+kernel,by decide+kernel⟩
theorem i7:aq ["self","begin"] ["self","begin"] (aj dI):=⟨rfl,rfl,rfl,by decide+kernel,rfl,by decide+kernel,by decide+kernel⟩
theorem cO:aq ["self","begin"] ["self"] (aj cT):=⟨rfl,rfl,rfl,by decide+kernel,rfl,by decide+kernel,by decide+kernel⟩
theorem wK:aq ["self","what","row"] ["self","what","row"] (aj rB):=⟨rfl,rfl,rfl,by decide+kernel,rfl,by decide+kernel,by decide+kernel⟩
theorem wN:aq ["self","what","kind","row"] ["self","what","kind","row"] (aj rE):=⟨rfl,rfl,rfl,by decide+kernel,rfl,by decide+kernel,by decide+kernel⟩
theorem pF:aq ["self","template"] ["self","template"] (aj jv):=⟨rfl,rfl,rfl,by decide+kernel,rfl,by decide+kernel,by decide+kernel⟩
theorem bV:aq ["self","copied_to","token","copied_end"] ["self"] (aj ju):=⟨rfl,rfl,rfl,by decide+kernel,rfl,by decide+kernel,by decide+kernel⟩
theorem jU:aq ["self","begin","end"] ["self","begin","end"] (aj eJ):=⟨rfl,rfl,rfl,by decide+kernel,rfl,by decide+kernel,by decide+kernel⟩
theorem kH:aq ["self","token"] ["self","token"] (aj fq):=⟨rfl,rfl,rfl,by decide+kernel,rfl,by decide+kernel,by decide+kernel⟩
theorem bt:aq ["self","token","sign","what"] ["self","token"] (aj fu):=⟨rfl,rfl,rfl,by decide+kernel,rfl,by decide+kernel,by decide+kernel⟩
theorem bW:aq ["self","token","place","begin","end"] ["self","token"] (aj gG):=⟨rfl,rfl,rfl,by decide+kernel,rfl,by decide+kernel,by decide+kernel⟩
theorem rq:aq ["self","row","kind"] ["self","row"] (aj ud):=⟨rfl,rfl,rfl,by decide+kernel,rfl,by decide+kernel,by decide+kernel⟩
theorem wM:aq ["self"] ["self"] (aj rD):=⟨rfl,rfl,rfl,by decide+kernel,rfl,by decide+kernel,by decide+kernel⟩
theorem wL:aq ["self"] ["self"] (aj rC):=⟨rfl,rfl,rfl,by decide+kernel,rfl,by decide+kernel,by decide+kernel⟩
theorem qG:aq ["self"] ["self"] (aj j0):=⟨rfl,rfl,rfl,by decide+kernel,rfl,by decide+kernel,by decide+kernel⟩
theorem lR:aq ["self"] ["self"] (aj gC):=⟨rfl,rfl,rfl,by decide+kernel,rfl,by decide+kernel,by decide+kernel⟩
theorem e7:aq ["self","more_entries","more_bytes","entry_count","byte_count"] ["self","more_entries","more_bytes"] (aj jZ):=⟨rfl,rfl,rfl,by decide+kernel,rfl,by decide+kernel,by decide+kernel⟩
theorem du:aq ["self","key","row","texts"] ["self","key","row"] (aj dH):=⟨rfl,rfl,rfl,by decide+kernel,rfl,by decide+kernel,by decide+kernel⟩
theorem fR:aq ["self","name","row","scope","key"] ["self","name","row"] (aj k9):=⟨rfl,rfl,rfl,by decide+kernel,rfl,by decide+kernel,by decide+kernel⟩
theorem cX:aq ["self","name","scope","key","item"] ["self","name"] (aj j1):=⟨rfl,rfl,rfl,by decide+kernel,rfl,by decide+kernel,by decide+kernel⟩
theorem pE:aq ["self"] ["self"] (aj jt):=⟨rfl,rfl,rfl,by decide+kernel,rfl,by decide+kernel,by decide+kernel⟩
theorem yi:aq ["self","pieces","outermost"] ["self","pieces","outermost"] (aj uc):=⟨rfl,rfl,rfl,by decide+kernel,rfl,by decide+kernel,by decide+kernel⟩
theorem rp:aq ["self","piece"] ["self"] (aj ub):=⟨rfl,rfl,rfl,by decide+kernel,rfl,by decide+kernel,by decide+kernel⟩
theorem jn:aq ["self","piece","scopes"] ["self","piece"] (aj jY):=⟨rfl,rfl,rfl,by decide+kernel,rfl,by decide+kernel,by decide+kernel⟩
theorem pD:aq ["self","piece"] ["self","piece"] (aj jr):=⟨rfl,rfl,rfl,by decide+kernel,rfl,by decide+kernel,by decide+kernel⟩
theorem vw:aq ["self"] ["self"] (aj pV):=⟨rfl,rfl,rfl,by decide+kernel,rfl,by decide+kernel,by decide+kernel⟩
theorem cB:aq ["self","template","pieces","fault"] ["self","template"] (aj bx):=⟨rfl,rfl,rfl,by decide+kernel,rfl,by decide+kernel,by decide+kernel⟩
theorem lV:aq ["self"] ["self"] (aj gJ):=⟨rfl,rfl,rfl,by decide+kernel,rfl,by decide+kernel,by decide+kernel⟩
theorem nN:aq ["self","name","row"] ["self","name","row"] (aj i0):=⟨rfl,rfl,rfl,by decide+kernel,rfl,by decide+kernel,by decide+kernel⟩
theorem m9:aq ["self","name"] ["self","name"] (aj iu):=⟨rfl,rfl,rfl,by decide+kernel,rfl,by decide+kernel,by decide+kernel⟩
theorem lU:aq ["self"] ["self"] (aj gI):=⟨rfl,rfl,rfl,by decide+kernel,rfl,by decide+kernel,by decide+kernel⟩
theorem nM:aq ["self"] ["self"] (aj iZ):=⟨rfl,rfl,rfl,by decide+kernel,rfl,by decide+kernel,by decide+kernel⟩
theorem lT:aq ["self"] ["self"] (aj gH):=⟨rfl,rfl,rfl,by decide+kernel,rfl,by decide+kernel,by decide+kernel⟩
theorem m8:aq ["self"] ["self"] (aj ir):=⟨rfl,rfl,rfl,by decide+kernel,rfl,by decide+kernel,by decide+kernel⟩
theorem fj:aq ["self","from_place","count","told"] ["self","from_place","count"] (aj fV):=⟨rfl,rfl,rfl,by decide+kernel,rfl,by decide+kernel,by decide+kernel⟩
theorem dj:aq ["self","number","holes","hole"] ["self","number"] (aj iw):=⟨rfl,rfl,rfl,by decide+kernel,rfl,by decide+kernel,by decide+kernel⟩
theorem fS:aq ["self","markup","fault"] ["self","markup"] (aj bJ):=⟨rfl,rfl,rfl,by decide+kernel,rfl,by decide+kernel,by decide+kernel⟩
theorem cY:aq ["self","number","markup","things","thing"] ["self","number","markup"] (aj bI):=⟨rfl,rfl,rfl,by decide+kernel,rfl,by decide+kernel,by decide+kernel⟩
theorem qI:aq ["self","calls"] ["self","calls"] (aj j4):=⟨rfl,rfl,rfl,by decide+kernel,rfl,by decide+kernel,by decide+kernel⟩
theorem nc:aq ["self"] ["self"] (aj iy):=⟨rfl,rfl,rfl,by decide+kernel,rfl,by decide+kernel,by decide+kernel⟩
theorem ef:aq ["self","number"] ["self"] (aj eK):=⟨rfl,rfl,rfl,by decide+kernel,rfl,by decide+kernel,by decide+kernel⟩
theorem cZ:aq ["self","length","row"] ["self"] (aj gK):=⟨rfl,rfl,rfl,by decide+kernel,rfl,by decide+kernel,by decide+kernel⟩
section
variable {X:Cx}
theorem rK(hu:X.A.units<cLine):OpR X (compareOp .Eq) (λx y H Q=>∃p q xs,x=.ref p∧y=.ref q∧SqL X.K H p xs∧SqL X.K H q []∧Q (.bl xs.isEmpty) H):=by
 intro pins s σ H x y v u Q I rx ry h;obtain⟨p,q,xs,rfl,rfl,h1,h2,k⟩:=h;obtain rfl:v=Value.ref p:=rx;obtain rfl:u=Value.ref q:=ry;obtain⟨i1,r1,⟨o1,n1,g1,c1,d1,e1⟩,_⟩:=I.list h1;obtain⟨i2,r2,⟨o2,n2,g2,c2,d2,e2⟩,_⟩:=I.list h2;cases r2;cases r1 with
 |nil=>
  refine SeqAt.eq_listAt (e:=λ_=>true) ⟨o1,g1,c1,n1,e1⟩ ⟨o2,g2,c2,n2,e2⟩ rfl hu (λj h1 h2=>?_) ⟨.bl true,H,I,rfl,k⟩;exact absurd h1 (by simp)
 |cons a b=>
  exact SeqAt.eq_list_lengthsAt ⟨o1,g1,c1,n1,e1⟩ ⟨o2,g2,c2,n2,e2⟩ (by simp) hu ⟨.bl false,H,I,rfl,k⟩
end
def Fr(F:Addr→Prop)(H H':Hp):Prop:=∀b o,H b=some o→¬F b→H' b=some o
theorem Fr.refl{F:Addr→Prop}(H:Hp):Fr F H H:=λ_ _ e _=>e
theorem Fr.trans{F:Addr→Prop}{H H1 H2:Hp}(a:Fr F H H1)(b:Fr F H1 H2):Fr F H H2:=λc o h n=>b c o (a c o h n) n
theorem Fr.of{F:Addr→Prop}{H H':Hp}(s:aE H H'):Fr F H H':=λb o e _=>s b o e
theorem Fr.mono{F G:Addr→Prop}{H H':Hp}(a:Fr F H H')(h:∀b o,H b=some o→F b→G b):Fr G H H':=λb o e n=>a b o e λz=>n (h b o e z)
theorem Fr.same{F:Addr→Prop}{H0 H H':Hp}(s:aE H0 H)(a:Fr F H H')(h:∀b o,H0 b=some o→¬F b):aE H0 H':=λb o e=>a b o (s b o e) (h b o e)
theorem ff{F:Addr→Prop}{H:Hp}{a:Addr}{o:HO}(h:F a):Fr F H (upd H a o):=λb u e n=>by rw[ae (λz=>n (by rw[z];exact h))];exact e
theorem aE.upd{H H':Hp}{a:Addr}{o:HO}(s:aE H H')(h:H a=none):aE H (L2.upd H' a o):=λb u e=>by rw[ae (aw e h)];exact s b u e
theorem aE.new{H H':Hp}{a:Addr}{o:HO}(s:aE H H')(h:H' a=none):aE H (L2.upd H' a o):=aE.upd s (s.free h)
theorem B8(i:Int)(l:List Int):inV (.int i) (l.map V.int)=l.contains i:=by
 unfold inV
 induction l with
 |nil=>rfl
 |cons a l ih=>
  rw[List.map_cons,List.any_cons,ih,List.contains_cons]
  congr 1
  show(a==i)=(i==a);exact Bool.eq_iff_iff.mpr ⟨λh=>by rw[beq_iff_eq]at h⊢;exact h.symm,λh=>by rw[beq_iff_eq]at h⊢;exact h.symm⟩
theorem xJ(l:List Int):(l.map V.int).all su=true:=by
 induction l with
 |nil=>rfl
 |cons a l ih=>rw[List.map_cons,List.all_cons,ih];rfl
section
variable {σ:L2.St}{H:Hp}{Q:VK}{D:Ends}{v:V}{i:Nat}{ta tb tc te:TE}{tt tu:TT}{ts tr:TS}{r r':R2}{K:PySem.W.Frag}
theorem fw(h:σ[i]?=some (some v))(q:Q v H):b9 i σ H Q:=⟨v,h,q⟩
theorem r_c(q:Q v H):tC v σ H Q:=q
theorem cb{f b t:L2.St→Hp→Prop}{rt:VK}(h:f σ H):Ends.nx ⟨f,rt,b,t⟩ σ H:=h
theorem JV{f b t:L2.St→Hp→Prop}{rt:VK}(h:rt v H):Ends.rt ⟨f,rt,b,t⟩ v H:=h
theorem aS(h:ts {D with nx:=tr D} σ H):Dx ts tr D σ H:=h
theorem JS(h:te σ H D.rt):Js te D σ H:=h
theorem HZ(h:D.rt .non H):GJ D σ H:=h
theorem bw(h:D.nx σ H):GN D σ H:=h
theorem kK(h:te σ H λ_ H1=>D.nx σ H1):pO te D σ H:=h
theorem lg(h:te σ H λx H1=>D.nx (σ.set i (some x)) H1):Fd te (dX i) D σ H:=h
theorem vC(h:ta σ H λx H1=>tb σ H1 λy H2=>r x y H2 Q):tOp r ta tb σ H Q:=h
theorem uO{g:Int→Int→V}{a b:Int}(h:Q (g a b) H):rI0 g (.int a) (.int b) H Q:=⟨_,_,rfl,rfl,h⟩
theorem bC(h:tt σ H λb H1=>if b=true then ts D σ H1 else tr D σ H1):Jw tt ts tr D σ H:=h
theorem kJ{Q:Bool→Hp→Prop}(h:te σ H λx H'=>∃k,x=.bl k∧Q k H'):xg te σ H Q:=h
theorem r_B{Q:Bool→Hp→Prop}(h:te σ H λx H1=>∃c,x=.bl c∧Q c H1):tB te σ H Q:=h
theorem bR{b:Bool}{R:Bool→Prop}(h:R b):∃k,V.bl b=.bl k∧R k:=⟨b,rfl,h⟩
theorem ite_true{A B:Prop}(h:A):if true=true then A else B:=nE h
theorem v7{A B:Prop}(h:B):if(!true)=true then A else B:=gB h
theorem A7{A B:Prop}(h:A):if(!false)=true then A else B:=nE h
theorem ite_false{A B:Prop}(h:B):if false=true then A else B:=gB h
theorem GW{Q:Bool→Hp→Prop}(h:tt σ H λc H1=>Q (!c) H1):Jt tt σ H Q:=h
theorem Ib(h:ta σ H λx H1=>∃c,x=.bl c∧Q (.bl (!c)) H1):Dy ta σ H Q:=h
theorem DX{Q:Bool→Hp→Prop}(h:tt σ H λc H1=>if c=true then tu σ H1 Q else Q false H1):Hn tt tu σ H Q:=h
theorem JU{Q:Bool→Hp→Prop}(h:tt σ H λc H1=>if c=true then Q true H1 else tu σ H1 Q):tOr tt tu σ H Q:=h
theorem Ih(h:ta σ H λx H1=>∃c,x=.bl c∧if c=true then tb σ H1 Q else Q (.bl false) H1):GP ta tb σ H Q:=h
theorem JT(h:ta σ H λx H1=>∃c,x=.bl c∧if c=true then Q (.bl true) H1 else tb σ H1 Q):Hi ta tb σ H Q:=h
theorem JY(h:tt σ H λc H1=>if c=true then ta σ H1 Q else tb σ H1 Q):tIf tt ta tb σ H Q:=h
theorem FI(h:ta σ H λx H1=>tb σ H1 λy H2=>r x y H2 λz H3=>∃k,z=.bl k∧(if k=true then tc σ H3 λw' H4=>r' y w' H4 Q else Q (.bl false) H3)):DA r r' ta tb tc σ H Q:=h
theorem jy{Q:List V→Hp→Prop}(h:Q [] H):ij σ H Q:=h
theorem l9{t:TA}{Q:List V→Hp→Prop}(h:ta σ H λx H1=>t σ H1 λxs H2=>Q (x::xs) H2):dF ta t σ H Q:=h
theorem vD{sp:Sp}{E:XK}{t:TA}(h:t σ H λvs H1=>sp (vs++[]) H1 Q E):vk sp [] E t σ H Q:=h
theorem Ie{C:Addr}{m:Str}{sp:Sp}{E:XK}{t:TA}(h:ta σ H λx H1=>∃a dx fs,x=.ref a∧H1 a=some (.ins C dx fs)∧fs.lookup m=none∧t σ H1 λvs H2=>sp (x::(vs++[])) H2 Q E):rk C m sp [] E ta t σ H Q:=h
theorem GV{t:TA}(h:t σ H λxs H1=>xs.length≤sizeLine∧∀p,H1 p=none→Q (.ref p) (upd H1 p (.tup xs))):Jr t σ H Q:=h
theorem zu{t:TA}(h:t σ H λxs H1=>xs.length≤sizeLine∧∀p,H1 p=none→Q (.ref p) (upd H1 p (.lst xs))):Fc t σ H Q:=h
theorem K0{rr:List V→Hp→VK→Prop}{t:TA}(h:t σ H λvs H1=>rr vs H1 Q):tCB rr t σ H Q:=h
theorem pZ{a b:Int}(h:Q (.bl (decide (a=b))) H):rEq (.int a) (.int b) H Q:=⟨rfl,by rw[show decide (V.int a=V.int b)=decide (a=b)from by simp];exact h⟩
theorem DV{a b:Int}(h:Q (.bl (!decide (a=b))) H):rNe (.int a) (.int b) H Q:=⟨rfl,by rw[show decide (V.int a=V.int b)=decide (a=b)from by simp];exact h⟩
theorem J0{a b:Bool}(h:Q (.bl (decide (a=b))) H):rEq (.bl a) (.bl b) H Q:=⟨rfl,by rw[show decide (V.bl a=V.bl b)=decide (a=b)from by simp];exact h⟩
theorem nY{f:Str}(h:ta σ H λx H1=>∃a C dx fs v,x=.ref a∧H1 a=some (.ins C dx fs)∧Cls K C∧au K C f∧fs.lookup f=some v∧Q v H1):jk K ta f σ H Q:=h
theorem qK{f:Str}(h:tb σ H λy H1=>ta σ H1 λx H2=>∃a C dx fs,x=.ref a∧H2 a=some (.ins C dx fs)∧Cls K C∧au K C f∧fs.length<1000∧
 D.nx σ (upd H2 a (.ins C dx (e9 f y fs)))):HS K ta tb f D σ H:=h
theorem inN{i:Int}{l:List Int}{p:Addr}(hp:H p=some (.tup (l.map V.int)))(h:Q (.bl (l.contains i)) H):rIn K false (.int i) (.ref p) H Q:=
 ⟨p,_,rfl,.inr (SqT.of hp),rfl,xJ l,by
  show Q (.bl (inV (.int i) (l.map V.int))) H;rw[B8];exact h⟩
theorem IA{i:Int}{l:List Int}{p:Addr}(hp:H p=some (.tup (l.map V.int)))(h:Q (.bl (!l.contains i)) H):rIn K true (.int i) (.ref p) H Q:=
 ⟨p,_,rfl,.inr (SqT.of hp),rfl,xJ l,by
  show Q (.bl (!inV (.int i) (l.map V.int))) H;rw[B8];exact h⟩
theorem cj{b:Bool}{A B:Prop}(h1:b=true→A)(h2:b=false→B):if b=true then A else B:=by
 cases b with
 |true=>exact nE (h1 rfl)
 |false=>exact gB (h2 rfl)
end
inductive F2{α β:Type}(R:α→β→Prop):List α→List β→Prop where
 |nil:F2 R [] []
 |cons {a:α} {b:β} {l:List α} {m:List β}:R a b→F2 R l m→F2 R (a::l) (b::m)
namespace F2
theorem imp{α β:Type}{R S:α→β→Prop}{l:List α}{m:List β}(h:F2 R l m)(f:∀a b,R a b→S a b):F2 S l m:=by
 induction h with
 |nil=>exact .nil
 |cons x _ ih=>exact .cons (f _ _ x) ih
theorem app{α β:Type}{R:α→β→Prop}{l l':List α}{m m':List β}(h:F2 R l m)(h':F2 R l' m'):F2 R (l++l') (m++m'):=by
 induction h with
 |nil=>exact h'
 |cons x _ ih=>exact .cons x ih
theorem len{α β:Type}{R:α→β→Prop}{l:List α}{m:List β}(h:F2 R l m):l.length=m.length:=by
 induction h with
 |nil=>rfl
 |cons _ _ ih=>rw[List.length_cons,List.length_cons,ih]
theorem get{α β:Type}{R:α→β→Prop}{l:List α}{m:List β}(h:F2 R l m):∀{i:Nat}{a:α},l[i]?=some a→∃b,m[i]?=some b∧R a b:=by
 induction h with
 |nil=>intro i a h;simp at h
 |cons x _ ih=>
  intro i a h;cases i with
  |zero=>cases h;exact⟨_,rfl,x⟩
  |succ i=>exact ih h
theorem get'{α β:Type}{R:α→β→Prop}{l:List α}{m:List β}(h:F2 R l m):∀{i:Nat}{b:β},m[i]?=some b→∃a,l[i]?=some a∧R a b:=by
 induction h with
 |nil=>intro i a h;simp at h
 |cons x _ ih=>
  intro i a h;cases i with
  |zero=>cases h;exact⟨_,rfl,x⟩
  |succ i=>exact ih h
end F2
section
variable {K:PySem.W.Frag}{a:Addr}{σ:L2.St}{H:Hp}{Q:VK}{tt:TT}{te:TE}{j:Nat}
theorem take_snoc{α:Type}:∀{l:List α}{i:Nat}{x:α},l[i]?=some x→l.take (i+1)=l.take i++[x]
 |[],i,x,h=>by simp at h
 |a::l,0,x,h=>by
  have e:a=x:=Option.some.inj h;subst e;rfl
 |a::l,i+1,x,h=>by
  have ih:=take_snoc (l:=l) (i:=i) (x:=x) h;show a::l.take (i+1)=a::l.take i++[x];rw[ih];rfl
theorem IS{α β:Type}(p:α→Bool)(g:α→β)(l:List α):((l.filter p).map g).length≤l.length:=by
 rw[List.length_map];exact List.length_filter_le _ _
theorem Ke{xs:List V}(p:V→Bool)(g:V→V)(hl:SqL K H a xs)(hz:xs.length<sizeLine)
  (ht:∀x∈xs,∀(H2:Hp)(Q':Bool→Hp→Prop),aE H H2→(∀H3,aE H2 H3→Q' (p x) H3)→tt ((wipe σ [j]).set j (some x)) H2 Q')
  (he:∀x∈xs,p x=true→∀(H2:Hp)(Q':VK),aE H H2→(∀H3,aE H2 H3→Q' (g x) H3)→te ((wipe σ [j]).set j (some x)) H2 Q')
  (hw:∀x,wipe ((wipe σ [j]).set j (some x)) [j]=wipe σ [j])
  (k:∀(D:Addr)(H':Hp),H D=none→aE H H'→H' D=some (.lst ((xs.filter p).map g))→Q (.ref D) H'):
  ∀D,H D=none→∃W:Nat→Nat→Hp→Prop,(∃m,W 0 m (upd H D (.lst [])))∧∀i m H,W i m H→
   ((Itl K a).stop i H∧Q (.ref D) H)∨((Itl K a).go i H∧∃Nx:Hp→Prop,(∀H',Nx H'→∃m',m'<m∧W (i+1) m' H')∧∀x H',(Itl K a).yld i H x H'→dX j x (wipe σ [j]) H' λσ2 H2=>wipe σ2 [j]=wipe σ [j]∧tt σ2 H2 λb H3=>
    if b=true then te σ2 H3 λy H4=>∃acc,H4 D=some (.lst acc)∧acc.length<sizeLine∧Nx (upd H4 D (.lst (acc++[y])))else Nx H3):=by
 intro D hD;refine Gi (K:=K) (xs:=xs) (λi H'=>aE H H'∧H' D=some (.lst (((xs.take i).filter p).map g))) ⟨ao hD,af⟩ (λi H' _⟨s,_⟩=>s.seq hl) ?_ ?_
 ·rintro i x H1 hi ⟨s1,hd⟩;have hx:=List.mem_of_getElem? hi;refine⟨hw x,ht x hx H1 _ s1 λH3 s3=>?_⟩;have e:=take_snoc hi;cases hp:p x with
  |true=>
   refine nE (he x hx hp H3 _ (s1.trans s3) λH4 s4=>?_);refine⟨_,s4 _ _ (s3 _ _ hd),Nat.lt_of_le_of_lt (Nat.le_trans (IS p g _) (by rw[List.length_take];exact Nat.min_le_right _ _)) hz,aE.upd ((s1.trans s3).trans s4) hD,?_⟩
   rw[af,e,List.filter_append,List.map_append];simp[hp]
  |false=>
   refine gB ⟨s1.trans s3,?_⟩;rw[s3 _ _ hd,e,List.filter_append,List.map_append];simp[hp]
 ·rintro H1 ⟨s1,hd⟩;rw[List.take_length]at hd;exact k D H1 hD s1 hd
def dc:List (Str×Str):=[("lt;","<"),("gt;",">"),("amp;","&"),("quot;","\""),("apos;","'")]
def Bs(K:PySem.W.Frag)(a:Addr)(as:List Addr):Prop:=∀H:Hp,SqT K H a (as.map V.ref)∧∀(i:Nat)(e s:Str),dc[i]?=some (e,s)→∃b,as[i]?=some b∧SqT K H b [.str e,.str s]
theorem Txt.AA{mg:Str→Option Value}{c:Cs}(T:Txt K mg c):∃a as,Kn mg "REFERENCES" (.ref a)∧as.length=5∧Bs K a as:=by
 obtain⟨a,a1,a2,a3,a4,a5,h1,h2⟩:=T.refs;refine⟨a,[a1,a2,a3,a4,a5],h1,rfl,λH=>⟨(h2 H).1,λi e s hi=>?_⟩⟩;obtain⟨_,b1,b2,b3,b4,b5⟩:=h2 H
 match i,hi with
 |0,hi=>cases hi;exact⟨a1,rfl,b1⟩
 |1,hi=>cases hi;exact⟨a2,rfl,b2⟩
 |2,hi=>cases hi;exact⟨a3,rfl,b3⟩
 |3,hi=>cases hi;exact⟨a4,rfl,b4⟩
 |4,hi=>cases hi;exact⟨a5,rfl,b5⟩
 |i+5,hi=>simp[dc]at hi
theorem Gh{as:List Addr}{i1 i2:Nat}(p:Str×Str→Bool)(R:Str×Str→V→Hp→Prop)(hl:Bs K a as)(ha:as.length=5)
  (hR:∀x y H1 H2 D,Fr (λb=>b=D) H1 H2→y≠.ref D→R x y H1→R x y H2)
  (ht:∀x∈dc,∀(H2:Hp)(Q':Bool→Hp→Prop),aE H H2→(∀H3,aE H2 H3→Q' (p x) H3)→tt (((wipe σ [i1,i2]).set i1 (some (.str x.1))).set i2 (some (.str x.2))) H2 Q')
  (he:∀x∈dc,p x=true→∀(H2:Hp)(Q':VK),aE H H2→(∀H3 y,aE H2 H3→(∀z,y=.ref z→H2 z=none)→R x y H3→Q' y H3)→te (((wipe σ [i1,i2]).set i1 (some (.str x.1))).set i2 (some (.str x.2))) H2 Q')
  (hw:∀x y,wipe (((wipe σ [i1,i2]).set i1 (some x)).set i2 (some y)) [i1,i2]=wipe σ [i1,i2])
  (k:∀(D:Addr)(H':Hp)(ys:List V),H D=none→aE H H'→H' D=some (.lst ys)→F2 (λx y=>R x y H') (dc.filter p) ys→Q (.ref D) H'):
  ∀D,H D=none→∃W:Nat→Nat→Hp→Prop,(∃m,W 0 m (upd H D (.lst [])))∧∀i m H,W i m H→
   ((Itt K a).stop i H∧Q (.ref D) H)∨((Itt K a).go i H∧∃Nx:Hp→Prop,(∀H',Nx H'→∃m',m'<m∧W (i+1) m' H')∧∀x H',(Itt K a).yld i H x H'→C9 K 2 (oG (dX i1) (oG (dX i2) Dc)) x (wipe σ [i1,i2]) H' λσ2 H2=>wipe σ2 [i1,i2]=wipe σ [i1,i2]∧tt σ2 H2 λb H3=>
    if b=true then te σ2 H3 λy H4=>∃acc,H4 D=some (.lst acc)∧acc.length<sizeLine∧Nx (upd H4 D (.lst (acc++[y])))else Nx H3):=by
 intro D hD;refine ID (K:=K) (xs:=as.map V.ref) (λi H'=>aE H H'∧∃ys,H' D=some (.lst ys)∧ys.length≤i∧F2 (λx y=>R x y H'∧y≠.ref D) ((dc.take i).filter p) ys) ⟨ao hD,[],af,Nat.le_refl _,.nil⟩ (λi H' _⟨s,_⟩=>(hl H').1) ?_ ?_
 ·rintro i x H1 hi ⟨s1,ys,hd,hy,rel⟩;rw[List.getElem?_map]at hi;obtain⟨b0,hb0,rfl⟩:=Option.map_eq_some_iff.mp hi;have hi5:i<5:=by rw[←ha];exact(List.getElem?_eq_some_iff.mp hb0).1
  obtain⟨x,hx⟩:∃x,dc[i]?=some x:=⟨_,List.getElem?_eq_getElem (show i<dc.length from hi5)⟩;obtain⟨e,s⟩:=x;obtain⟨b,hb,hs⟩:=(hl H1).2 i e s hx;have eb:b0=b:=Option.some.inj (hb0.symm.trans hb);subst eb;have hm:=List.mem_of_getElem? hx;refine⟨b0,_,rfl,hs,rfl,_,_,rfl,_,_,rfl,rfl,?_⟩;refine⟨hw _ _,ht (e,s) hm H1 _ s1 λH3 s3=>?_⟩;have et:=take_snoc hx;have stab:∀{H4:Hp},aE H1 H4→F2 (λx y=>R x y H4∧y≠.ref D) ((dc.take i).filter p) ys:=λ{H4}s4=>
   rel.imp λx y⟨h1,h2⟩=>⟨hR x y H1 H4 D (Fr.of s4) h2 h1,h2⟩
  cases hp:p (e,s)with
  |true=>
   refine nE (he (e,s) hm hp H3 _ (s1.trans s3) λH4 y s4 fr hr=>?_);have nD:y≠.ref D:=λz=>by
    have:=fr D z;rw[s3 _ _ hd]at this;cases this
   refine⟨_,s4 _ _ (s3 _ _ hd),Nat.lt_of_le_of_lt hy (Nat.lt_trans hi5 (by decide)),aE.upd ((s1.trans s3).trans s4) hD,ys++[y],af,by rw[List.length_append];exact Nat.succ_le_succ hy,?_⟩
   rw[et,List.filter_append];have f1:Fr (λb=>b=D) H4 (upd H4 D (.lst (ys++[y]))):=ff rfl;simp only[List.filter_cons,hp,if_true,List.filter_nil];exact F2.app ((stab (s3.trans s4)).imp λx y⟨h1,h2⟩=>⟨hR x y _ _ D f1 h2 h1,h2⟩) (.cons ⟨hR _ _ _ _ D f1 nD hr,nD⟩ .nil)
  |false=>
   refine gB ⟨s1.trans s3,ys,s3 _ _ hd,Nat.le_succ_of_le hy,?_⟩;rw[et,List.filter_append];simp only[List.filter_cons,hp,List.filter_nil,Bool.false_eq_true,if_false,List.append_nil];exact stab s3
 ·rintro H1 ⟨s1,ys,hd,hy,rel⟩;rw[List.length_map,ha]at rel;exact k D H1 ys hD s1 hd (rel.imp λx y h=>h.1)
theorem lcF{xs:List V}{vs:List Nat}{i:Nat}(p:V→Bool)(g:V→V)(hl:SqL K H a xs)(hz:xs.length<sizeLine)
  (ht:∀x∈xs,∀(H2:Hp)(Q':Bool→Hp→Prop),aE H H2→(∀H3,aE H2 H3→Q' (p x) H3)→tt ((wipe σ [j]).set j (some x)) H2 Q')
  (he:∀x∈xs,p x=true→∀(H2:Hp)(Q':VK),aE H H2→(∀H3,aE H2 H3→Q' (g x) H3)→te ((wipe σ [j]).set j (some x)) H2 Q')
  (k:∀(D:Addr)(H':Hp),H D=none→aE H H'→H' D=some (.lst ((xs.filter p).map g))→Q (.ref D) H')
  (hi:σ[i]?=some (some (.ref a)):=by rfl)(hw:∀x,wipe ((wipe σ [j]).set j (some x)) [j]=wipe σ [j]:=by intro _;rfl)(hv:vs=[j]:=by rfl):
  tLc (B9 K (b9 i)) (dX j) tt te vs σ H Q:=by
 subst hv;exact⟨.ref a,hi,a,rfl,⟨_,hl⟩,Ke p g hl hz ht he hw k⟩
theorem lcR{as:List Addr}{i1 i2:Nat}{vs:List Nat}(p:Str×Str→Bool)(R:Str×Str→V→Hp→Prop)(hl:Bs K a as)(ha:as.length=5)
  (hR:∀x y H1 H2 D,Fr (λb=>b=D) H1 H2→y≠.ref D→R x y H1→R x y H2)
  (ht:∀x∈dc,∀(H2:Hp)(Q':Bool→Hp→Prop),aE H H2→(∀H3,aE H2 H3→Q' (p x) H3)→tt (((wipe σ [i1,i2]).set i1 (some (.str x.1))).set i2 (some (.str x.2))) H2 Q')
  (he:∀x∈dc,p x=true→∀(H2:Hp)(Q':VK),aE H H2→(∀H3 y,aE H2 H3→(∀z,y=.ref z→H2 z=none)→R x y H3→Q' y H3)→te (((wipe σ [i1,i2]).set i1 (some (.str x.1))).set i2 (some (.str x.2))) H2 Q')
  (k:∀(D:Addr)(H':Hp)(ys:List V),H D=none→aE H H'→H' D=some (.lst ys)→F2 (λx y=>R x y H') (dc.filter p) ys→Q (.ref D) H')
  (hw:∀x y,wipe (((wipe σ [i1,i2]).set i1 (some x)).set i2 (some y)) [i1,i2]=wipe σ [i1,i2]:=by intro _ _;rfl)(hv:vs=[i1,i2]:=by rfl):
  tLc (IL K (tC (.ref a))) (C9 K 2 (oG (dX i1) (oG (dX i2) Dc))) tt te vs σ H Q:=by
 subst hv;exact⟨a,rfl,⟨_,(hl H).1⟩,Gh p R hl ha hR ht he hw k⟩
theorem Kj{xs:List V}{i:Nat}{tb:TS}{D:Ends}(Pv:Nat→L2.St→Hp→Prop)(hi:σ[i]?=some (some (.ref a)))(hl:SqL K H a xs)(h0:Pv 0 σ H)(hs:∀i σ H,i≤xs.length→Pv i σ H→SqL K H a xs)
  (hb:∀i x σ H,xs[i]?=some x→Pv i σ H→tb {D with nx:=Pv (i+1),ct:=Pv (i+1),bk:=D.nx} (σ.set j (some x)) H)(hd:∀σ H,Pv xs.length σ H→D.nx σ H):
  Dz (B9 K (b9 i)) (dX j) tb D σ H:=
 ⟨.ref a,hi,a,rfl,⟨_,hl⟩,wc (K:=K) (xs:=xs) Pv h0 hs hb hd⟩
theorem BL{tl:TE}{R:It→Hp→Prop}(h:tl σ H λx H1=>∃a,x=.ref a∧(∃xs,SqL K H1 a xs)∧R (Itl K a) H1):B9 K tl σ H R:=h
theorem GZ{wi:TI}{g:TG}{tb:TS}{D:Ends}(h:wi σ H λJ H1=>∃W:Nat→Nat→L2.St→Hp→Prop,(∃m,W 0 m σ H1)∧∀i m σ H,W i m σ H→
 (J.stop i H∧D.nx σ H)∨(J.go i H∧∃N:L2.St→Hp→Prop,(∀σ' H',N σ' H'→∃m',m'<m∧W (i+1) m' σ' H')∧∀x H',J.yld i H x H'→g x σ H' λσ2 H2=>tb {D with nx:=N,ct:=N,bk:=D.nx} σ2 H2)):Dz wi g tb D σ H:=h
theorem DW{T:String}{r:V→List V→Hp→VK→Prop}{to:TE}{t:TA}(h:to σ H λx H1=>tyV K T x H1∧t σ H1 λxs H2=>r x xs H2 Q):tBM K T r to t σ H Q:=h
theorem J2{T:String}{r:V→List V→Hp→VK→Prop}{to:TE}(h:to σ H λx H1=>tyV K T x H1∧r x [] H1 Q):Jz K T r to σ H Q:=h
theorem tyL{l:Addr}{xs:List V}{R:Prop}(h:H l=some (.lst xs))(q:R):tyV K "list" (.ref l) H∧R:=⟨.inl ⟨rfl,_,SqL.of h⟩,q⟩
theorem eO{l:Addr}{xs:List V}{y:V}(h:H l=some (.lst xs))(hz:xs.length<sizeLine)(q:Q .non (upd H l (.lst (xs++[y])))):ja (.ref l) [y] H Q:=⟨l,xs,y,rfl,rfl,h,hz,q⟩
theorem Ep{l b:Addr}{xs ys:List V}(h:H l=some (.lst xs))(hb:H b=some (.lst ys))(hz:xs.length+ys.length≤sizeLine)(q:Q .non (upd H l (.lst (xs++ys)))):BO (.ref l) [.ref b] H Q:=⟨l,b,xs,ys,rfl,rfl,h,hb,hz,q⟩
theorem KW{r:V→Option Int→Option Int→Hp→VK→Prop}{tl th:TO}(h:te σ H λx H1=>tl σ H1 λl H2=>th σ H2 λu H3=>r x l u H3 Q):tSl r te tl th σ H Q:=h
theorem Ia{Q:Option Int→Hp→Prop}(h:te σ H λx H1=>∃i,x=.int i∧Q (some i) H1):By te σ H Q:=h
theorem DU{Q:Option Int→Hp→Prop}(h:Q none H):Bz σ H Q:=h
theorem JX{i:Int}{R:Int→Prop}(h:R i):∃j,V.int i=.int j∧R j:=⟨i,rfl,h⟩
theorem J3{i:Nat}{ti:TIp}{D:Ends}{x:V}(h:σ[i]?=some (some x))(q:te σ H λy H1=>ti x y H1 λz H2=>D.nx (σ.set i (some z)) H2):JA i te ti D σ H:=⟨x,h,q⟩
theorem KY{f:Int→Int→Int}{x y:Int}(q:Q (.int (f x y)) H):ipI f (.int x) (.int y) H Q:=⟨x,y,rfl,rfl,q⟩
theorem JR{r:V→Hp→VK→Prop}(h:te σ H λx H1=>r x H1 Q):tUn r te σ H Q:=h
theorem r_U{g:Int→V}{i:Int}(h:Q (g i) H):rU g (.int i) H Q:=⟨i,rfl,h⟩
theorem Ig{td ty:TE}(h:td σ H λx H1=>ty σ H1 λy H2=>∃a v,x=.ref a∧jV H2 a y (some v)∧Q v H2):GO td ty σ H Q:=h
theorem J1{td ty:TE}(h:ty σ H λy H1=>td σ H1 λx H2=>∃a o,x=.ref a∧jV H2 a y o∧Q (.bl o.isSome) H2):Jy ty td σ H Q:=h
theorem AD{td ty tv:TE}{D:Ends}(h:tv σ H λv H1=>td σ H1 λx H2=>ty σ H2 λy H3=>∃a H4,x=.ref a∧y8 H3 a y v H4∧D.nx σ H4):GQ td ty tv D σ H:=h
theorem nX{C:Addr}{sp:Sp}{E:XK}{t:TA}(h:t σ H λvs H1=>∀x dx,H1 x=none→H1 dx=none→dx≠x→
 sp (.ref x::(vs++[])) (upd (upd H1 dx (.own x)) x (.ins C dx [])) (λv H2=>v=.non∧Q (.ref x) H2) E):t6 C sp [] E t σ H Q:=h
theorem JW{ta:TE}(h:ta σ H λx H1=>Q (.bl (decide (x=.non))) H1):Jv ta σ H Q:=h
theorem Ic{ta:TE}(h:ta σ H λx H1=>Q (.bl (!decide (x=.non))) H1):GK ta σ H Q:=h
theorem KZ{i:Nat}{v:V}{σ:L2.St}{H:Hp}{Q:L2.St→Hp→Prop}(h:Q (σ.set i (some v)) H):dX i v σ H Q:=h
end
section
variable {K:PySem.W.Frag}{a p q:Addr}{σ:L2.St}{H:Hp}{Q:VK}{tt:TT}{te:TE}{j:Nat}
theorem vd(l:List Int):uE K H (l.map V.int) (l.map PyData.int):=by
 induction l with
 |nil=>exact .nil
 |cons a l ih=>exact .cons (.int a) ih
theorem uT(l:List Int):SeqAt.shaped (.list (l.map PyData.int))=true:=by
 have h1:PyData.canLayAll0 (l.map PyData.int)=true:=by
  induction l with
  |nil=>rfl
  |cons a l ih=>rw[List.map_cons,PyData.canLayAll0,ih];rfl
 have h2:PyData.depthAll (l.map PyData.int)=0:=by
  induction l with
  |nil=>rfl
  |cons a l ih=>rw[List.map_cons,PyData.depthAll,ih (by simpa[PyData.canLayAll0]using(by simpa[PyData.canLayAll0,PyData.canLay0]using h1))];rfl
 unfold SeqAt.shaped;rw[PyData.canLay0,h1,PyData.depth,h2];rfl
theorem wo:∀l m:List Int,PyData.eqvAll (l.map PyData.int) (m.map PyData.int)=decide (l=m)
 |[],[]=>rfl
 |a::l,[]=>by simp[PyData.eqvAll]
 |[],b::m=>by simp[PyData.eqvAll]
 |a::l,b::m=>by
  rw[List.map_cons,List.map_cons,PyData.eqvAll,wo l m,PyData.eqv];rw[Bool.eq_iff_iff];simp
theorem JZ{l m:List Int}(h1:SqL K H p (l.map V.int))(h2:SqL K H q (m.map V.int))(k:Q (.bl (decide (l=m))) H):Ik K (.ref p) (.ref q) H Q:=
 ⟨_,_,.lst h1 (vd l),.lst h2 (vd m),uT l,uT m,by rw[PyData.eqv,wo];exact k⟩
theorem GY{l m:List Int}(h1:SqL K H p (l.map V.int))(h2:SqL K H q (m.map V.int))(k:Q (.bl (!decide (l=m))) H):Ij K (.ref p) (.ref q) H Q:=
 ⟨_,_,.lst h1 (vd l),.lst h2 (vd m),uT l,uT m,by rw[PyData.eqv,wo];exact k⟩
theorem Cj(l:List Str):uE K H (l.map V.str) (l.map PyData.str):=by
 induction l with
 |nil=>exact .nil
 |cons a l ih=>exact .cons (.str a) ih
theorem BI(l:List Str)(ok:∀x∈l,PyData.strOk x=true):SeqAt.shaped (.list (l.map PyData.str))=true:=by
 have h1:PyData.canLayAll0 (l.map PyData.str)=true:=by
  induction l with
  |nil=>rfl
  |cons a l ih=>rw[List.map_cons,PyData.canLayAll0,ih λx h=>ok x (List.mem_cons_of_mem _ h),PyData.canLay0,ok a List.mem_cons_self];rfl
 have h2:PyData.depthAll (l.map PyData.str)=0:=by
  clear h1 ok
  induction l with
  |nil=>rfl
  |cons a l ih=>rw[List.map_cons,PyData.depthAll,ih];rfl
 unfold SeqAt.shaped;rw[PyData.canLay0,h1,PyData.depth,h2];rfl
theorem Ac:∀l m:List Str,PyData.eqvAll (l.map PyData.str) (m.map PyData.str)=decide (l=m)
 |[],[]=>rfl
 |a::l,[]=>by simp[PyData.eqvAll]
 |[],b::m=>by simp[PyData.eqvAll]
 |a::l,b::m=>by
  rw[List.map_cons,List.map_cons,PyData.eqvAll,Ac l m,PyData.eqv];rw[Bool.eq_iff_iff];simp
theorem GX{l m:List Str}(h1:SqL K H p (l.map V.str))(h2:SqL K H q (m.map V.str))(ol:∀x∈l,PyData.strOk x=true)(om:∀x∈m,PyData.strOk x=true)(k:Q (.bl (!decide (l=m))) H):Ij K (.ref p) (.ref q) H Q:=
 ⟨_,_,.lst h1 (Cj l),.lst h2 (Cj m),BI l ol,BI m om,by rw[PyData.eqv,Ac];exact k⟩
theorem Jq{R:Bool→Hp→Prop}(h:R true H):Hg σ H R:=h
def Av(s:Str):List Int:=s.cps.toList.map λ(n:Nat)=>(n:Int)
theorem lcS{x:Str}{vs:List Nat}{i:Nat}(g:Nat→V)(hz:x.cps.size<sizeLine)
  (he:∀c∈x.cps.toList,∀(H2:Hp)(Q':VK),aE H H2→(∀H3,aE H2 H3→Q' (g c) H3)→te ((wipe σ [j]).set j (some (.str ⟨#[c]⟩))) H2 Q')
  (k:∀(D:Addr)(H':Hp),H D=none→aE H H'→H' D=some (.lst (x.cps.toList.map g))→Q (.ref D) H')
  (hi:σ[i]?=some (some (.str x)):=by rfl)(hw:∀y,wipe ((wipe σ [j]).set j (some y)) [j]=wipe σ [j]:=by intro _;rfl)(hv:vs=[j]:=by rfl):
  tLc (Kg (b9 i)) (dX j) Hg te vs σ H Q:=by
 subst hv;refine⟨.str x,hi,x,rfl,λD hD=>⟨λi m H'=>m=x.cps.size-i∧i≤x.cps.size∧aE H H'∧H' D=some (.lst ((x.cps.toList.take i).map g)),⟨_,rfl,Nat.zero_le _,ao hD,af⟩,?_⟩⟩;rintro i m H1 ⟨rfl,hi,s1,hd⟩
 by_cases hlt:i<x.cps.size
 ·refine .inr ⟨hlt,λH'=>aE H H'∧H' D=some (.lst ((x.cps.toList.take (i+1)).map g)),λH'⟨a1,a2⟩=>⟨_,by omega,rfl,hlt,a1,a2⟩,?_⟩
  rintro y H' ⟨rfl,c,hc,rfl⟩;have hc':x.cps.toList[i]?=some c:=by rw[Array.getElem?_toList];exact hc
  refine⟨hw _,Jq ?_⟩;dsimp only;refine nE ?_;refine he c (List.mem_of_getElem? hc') H' _ s1 λH3 s3=>⟨_,s3 _ _ hd,?_,aE.upd (s1.trans s3) hD,?_⟩
  ·rw[List.length_map,List.length_take];exact Nat.lt_of_le_of_lt (Nat.min_le_left _ _) (Nat.lt_trans hlt hz)
  ·rw[af,take_snoc hc',List.map_append];rfl
 ·refine .inl ⟨Nat.le_of_not_lt hlt,k D H1 hD s1 ?_⟩;rw[hd,List.take_of_length_le (by simp;omega)]
theorem BM{l b:Addr}{xs ys:List V}(h1:H l=some (.lst xs))(h2:H b=some (.lst ys))(hz:xs.length+ys.length≤sizeLine)(k:∀p,H p=none→Q (.ref p) (upd H p (.lst (xs++ys)))):J5 (.ref l) (.ref b) H Q:=
 ⟨l,b,xs,ys,rfl,rfl,h1,h2,hz,k⟩
end
section
variable {X:Cx}{e:Expr}{ta:TE}{f:Str}{pos:Pos}
theorem FV(K:PySem.W.Frag)(he:PE X e ta)(hb:attributeBase e f X.env (eval e X.env)=eval e X.env)(hK:X.K=K:=by rfl):PE X (.Attribute e f pos) (jk K ta f):=by
 subst hK;exact ak he hb
theorem wW(K:PySem.W.Frag)(hK:X.K=K:=by rfl):sN X (.builtin "len") (λxs H Q=>∃p ys,xs=[.ref p]∧(SqL K H p ys∨SqT K H p ys)∧Q (.int ys.length) H):=by
 subst hK;exact aD
theorem F3(K:PySem.W.Frag)(hu:X.A.units+64<cLine)(hK:X.K=K:=by rfl):OpR X (compareOp .Eq) (Ik K):=by
 subst hK;exact Iy hu
end
section
variable {P:Program}{w:World}{K:PySem.W.Frag}{mg:Str→Option Value}{base:Heap}{c:Cs}
local macro_rules|`(tactic|walk_at"rd1")=>`(tactic|first
 |((with_reducible refine' fw ?rdh ?_);(case rdh=>exact rfl))
 |with_reducible refine r_c ?_
 |with_reducible refine aS ?_
 |with_reducible refine JS ?_
 |with_reducible refine HZ ?_
 |with_reducible refine bw ?_
 |with_reducible refine kK ?_
 |with_reducible refine lg ?_
 |with_reducible refine vC ?_
 |with_reducible refine uO ?_
 |with_reducible refine bC ?_
 |with_reducible refine kJ ?_
 |with_reducible refine r_B ?_
 |with_reducible refine bR ?_
 |with_reducible refine GW ?_
 |with_reducible refine Ib ?_
 |with_reducible refine DX ?_
 |with_reducible refine JU ?_
 |with_reducible refine Ih ?_
 |with_reducible refine JT ?_
 |with_reducible refine JY ?_
 |with_reducible refine FI ?_
 |with_reducible refine jy ?_
 |with_reducible refine l9 ?_
 |with_reducible refine vD ?_
 |with_reducible refine Ie ?_
 |with_reducible refine GV ?_
 |with_reducible refine zu ?_
 |with_reducible refine K0 ?_
 |with_reducible refine pZ ?_
 |with_reducible refine DV ?_
 |with_reducible refine nY ?_
 |with_reducible refine qK ?_
 |with_reducible refine DW ?_
 |with_reducible refine J2 ?_
 |with_reducible refine KW ?_
 |with_reducible refine Ia ?_
 |with_reducible refine DU ?_
 |with_reducible refine JX ?_
 |with_reducible refine KY ?_
 |with_reducible refine JR ?_
 |with_reducible refine r_U ?_
 |with_reducible refine Ig ?_
 |with_reducible refine J1 ?_
 |with_reducible refine AD ?_
 |with_reducible refine nX ?_
 |with_reducible refine JW ?_
 |with_reducible refine Ic ?_
 |((with_reducible refine' J3 ?rdh ?_);(case rdh=>exact rfl))
 |with_reducible refine ite_true ?_
 |with_reducible refine ite_false ?_
 |with_reducible refine v7 ?_
 |with_reducible refine A7 ?_
 |with_reducible refine cj (λ_=>?_) (λ_=>?_)
 |with_reducible refine KZ ?_
 |with_reducible refine cb ?_
 |with_reducible refine JV ?_)
local macro_rules|`(tactic|walk_at"rd")=>`(tactic|repeat' (walk_at"rd1"))
def cN(i:Int):Bool:=(decide (65≤i)&&decide (i≤90))||(decide (97≤i)&&decide (i≤122))
def Bf(i:Int):Bool:=decide (48≤i)&&decide (i≤57)
def qZ(i:Int):Bool:=[32,9,10,13].contains i
def fMk(i:Int):Bool:=cN i||(Bf i||decide (i=45))
def fNm(i:Int):Bool:=fMk i||decide (i=95)
def spI(f:Int→Bool):Sp:=λvs H Q _=>∃i,vs=[.int i]∧∀H',aE H H'→Q (.bl (f i)) H'
def HF(f:Int→Int):Sp:=λvs H Q _=>∃i,vs=[.int i]∧∀H',aE H H'→Q (.int (f i)) H'
theorem fX(T:Txt K mg c):eU P w K mg base "is_letter" ["byte"] 1 (spI cN):=by
 refine T.uz.has (k:=0) sc_is_letter (λvs H Q E h=>?_) (λfa cdv A outer sh0 H vs Q E hr h=>?_)
 ·obtain⟨i,rfl,_⟩:=h;rfl
 ·obtain⟨i,rfl,k⟩:=h;refine⟨_,(ah (ay (uh (vG xt xt aA (pv 0) aA) (kM (vG xt xt aA (pv 0) aA))))),?_⟩
  try dsimp only[aM]
  have k0:=k H (aE.refl H);unfold cN at k0;walk_at"rd"<;>simp_all
theorem zC(T:Txt K mg c):eU P w K mg base "is_digit" ["byte"] 1 (spI Bf):=by
 refine T.wj.has (k:=0) zm (λvs H Q E h=>?_) (λfa cdv A outer sh0 H vs Q E hr h=>?_)
 ·obtain⟨i,rfl,_⟩:=h;rfl
 ·obtain⟨i,rfl,k⟩:=h;refine⟨_,(ah (ay (vG xt xt aA (pv 0) aA))),?_⟩
  try dsimp only[aM]
  have k0:=k H (aE.refl H);unfold Bf at k0;walk_at"rd"<;>simp_all
theorem zD(T:Txt K mg c):eU P w K mg base "is_blank" ["byte"] 1 (spI qZ):=by
 refine T.wk.has (k:=0) zo (λvs H Q E h=>?_) (λfa cdv A outer sh0 H vs Q E hr h=>?_)
 ·obtain⟨i,rfl,_⟩:=h;rfl
 ·obtain⟨i,rfl,k⟩:=h;refine⟨_,(ah (ay (bK fA (pv 0) (kL (aa aA (aa aA (aa aA (aa aA ai))))) (by with_unfolding_all rfl)))),?_⟩
  try dsimp only[aM]
  walk_at"rd";refine⟨by show 4≤sizeLine;decide,λp hp=>?_⟩
  exact inN (l:=[32,9,10,13]) af (k _ (ao hp))
theorem c_I{f:Int→Bool}{i:Int}{H:Hp}{Q:VK}{E:XK}(h:∀H1,aE H H1→Q (.bl (f i)) H1):spI f [.int i] H Q E:=⟨i,rfl,h⟩
theorem Je{f:Int→Int}{i:Int}{H:Hp}{Q:VK}{E:XK}(h:∀H1,aE H H1→Q (.int (f i)) H1):HF f [.int i] H Q E:=⟨i,rfl,h⟩
theorem eN(T:Txt K mg c):eU P w K mg base "continues_markup_name" ["byte"] 2 (spI fMk):=by
 refine T.fK.has (k:=1) kF (λvs H Q E h=>?_) (λfa cdv A outer sh0 H vs Q E hr h=>?_)
 ·obtain⟨i,rfl,_⟩:=h;rfl
 ·obtain⟨i,rfl,k⟩:=h;refine⟨_,(ah (ay (uh (pf (fX T) hr nox (aa (pv 0) ai)) (uh (pf (zC T) hr nox (aa (pv 0) ai)) (kM (bK bh (pv 0) (pg T.Am) (aB _))))))),?_⟩
  try dsimp only[aM]
  walk_at"rd";refine c_I λH1 s1=>?_;have k0:=k H1 s1;unfold fMk at k0;walk_at"rd"
  ·simp_all
  ·refine c_I λH2 s2=>?_;have k1:=k H2 (s1.trans s2);unfold fMk at k1;walk_at"rd"<;>simp_all
theorem j7(T:Txt K mg c):eU P w K mg base "continues_name" ["byte"] 3 (spI fNm):=by
 refine T.lD.has (k:=2) ro (λvs H Q E h=>?_) (λfa cdv A outer sh0 H vs Q E hr h=>?_)
 ·obtain⟨i,rfl,_⟩:=h;rfl
 ·obtain⟨i,rfl,k⟩:=h;refine⟨_,(ah (ay (uh (pf (eN T) hr nox (aa (pv 0) ai)) (kM (bK bh (pv 0) (pg T.sA) (aB _)))))),?_⟩
  try dsimp only[aM]
  walk_at"rd";refine c_I λH1 s1=>?_;have k0:=k H1 s1;unfold fNm at k0;walk_at"rd"<;>simp_all
def Cb(l:List Int):Bool:=match l with
 |[]=>false
 |x::r=>decide (r.length+1≤32)&&(cN x&&l.all fNm)
theorem mB(x:Int)(r:List Int):Cb (x::r)=(decide (r.length+1≤32)&&(cN x&&(x::r).all fNm)):=rfl
def HE(K:PySem.W.Frag):Sp:=λvs H Q _=>∃a l,vs=[.ref a]∧SqL K H a (l.map V.int)∧l.length<sizeLine∧∀H',aE H H'→Q (.bl (Cb l)) H'
theorem vO(T:Txt K mg c):eU P w K mg base "is_name" ["row"] 4 (HE K):=by
 refine T.xN.has (k:=3) qF (λvs H Q E h=>?_) (λfa cdv A outer sh0 H vs Q E hr h=>?_)
 ·obtain⟨a,l,rfl,_⟩:=h;rfl
 ·obtain⟨a,l,rfl,hl,hz,k⟩:=h;refine⟨_,(ag (aP (ue (az (rK hr.x9) (pv 0) (aU ai) (aB _)) (qL (az p8 (aK aD (by rfl) T.b8 PySem.boot_len (aa (pv 0) ai)) (pg T.jR) (aB _)))).pt (ah (ay vI)) aO) (ah (ay (yq (pf (fX T) hr nox (aa (dz bD (pv 0) aA (λ_ _=>rfl)) ai)) (kM (aK (Jd rfl) (by rfl) T.Ha PyProof.Rows.boot_all (aa (vF (own:=[("byte",1)]) rfl qF.nd (j6 (pv 0)) (iO (N:=["row","byte"]) (sc:=aj tp) (by decide+kernel)) (λ_ _ _ _ _=>(cn (i:=1) qF.nd rfl (Or.inl rfl))) (λ_ _ _ _ _=>uZ) (λ_ _ _ _ _=>(pf (j7 T) hr nox (aa (pv 1) ai)))) ai))))))),?_⟩
  try dsimp only[aM]
  walk_at"rd";refine⟨Nat.zero_le _,λp hp=>?_⟩;have s1:aE H (upd H p (.lst [])):=ao hp;refine⟨a,p,_,rfl,rfl,s1.seq hl,SqL.of af,?_⟩;have k1:=k _ s1;cases l with
  |nil=>
   refine bR (nE ?_);walk_at"rd";exact k1
  |cons x r=>
   walk_at"rd"
   ·rename_i h;cases h
   ·refine⟨a,_,rfl,.inl (s1.seq hl),?_⟩;walk_at"rd"
    ·rename_i _ h;rw[decide_eq_true_eq]at h;rw[show Cb (x::r)=false from by rw[mB,decide_eq_false (by simp at h;omega),Bool.false_and]]at k1
     exact k1
    ·rename_i _ h;rw[decide_eq_false_iff_not]at h;have hn:r.length+1≤32:=by simp at h;omega
     refine⟨a,_,_,_,rfl,rfl,s1.seq hl,c6 (j:=0) (v:=V.int x) rfl,?_⟩;walk_at"rd";refine c_I λH2 s2=>?_;walk_at"rd"
     ·rename_i hx;have s12:=s1.trans s2;refine lcF (λ_=>true) (λv=>match v with|.int i=>.bl (fNm i)|v=>v) (s12.seq hl) (by rw[List.length_map];exact hz) (λy hy H3 Q' s3 q=>q H3 (aE.refl _)) (λy hy _ H3 Q' s3 q=>?_) λD H3 hD s3 hd=>?_
      ·obtain⟨i,_,rfl⟩:=List.mem_map.mp hy;walk_at"rd";exact c_I λH4 s4=>q H4 s4
      ·walk_at"rd";refine⟨D,(x::r).map fNm,rfl,SqL.of ?_,?_⟩
       ·rw[hd,List.filter_eq_self.mpr (λ_ _=>rfl),List.map_map,List.map_map];rfl
       ·have k3:=k H3 (s12.trans s3);rw[mB,decide_eq_true hn,hx,Bool.true_and,Bool.true_and]at k3;rw[List.all_map];exact k3
     ·rename_i hx;have k2:=k H2 (s1.trans s2);rw[mB,hx,Bool.false_and,Bool.and_false]at k2;exact k2
def yP(i:Int):Bool:=[2,3].contains i
def jM(i:Int):Bool:=[4,5].contains i
def xQ(i:Int):Int:=if i=2 then 34 else 39
def Aa(i:Int):Int:=if i=34 then 2 else 3
theorem oo(T:Txt K mg c):eU P w K mg base "is_in_value" ["kind"] 1 (spI yP):=by
 refine T.qt.has (k:=0) vv (λvs H Q E h=>?_) (λfa cdv A outer sh0 H vs Q E hr h=>?_)
 ·obtain⟨i,rfl,_⟩:=h;rfl
 ·obtain⟨i,rfl,k⟩:=h;refine⟨_,(ah (ay (bK fA (pv 0) (kL (aa (pg T.dh) (aa (pg T.eX) ai))) (by with_unfolding_all rfl)))),?_⟩
  try dsimp only[aM]
  walk_at"rd";refine⟨by show 2≤sizeLine;decide,λp hp=>?_⟩
  exact inN (l:=[2,3]) af (k _ (ao hp))
theorem yx(T:Txt K mg c):eU P w K mg base "is_in_tag" ["kind"] 1 (spI jM):=by
 refine T.uA.has (k:=0) yg (λvs H Q E h=>?_) (λfa cdv A outer sh0 H vs Q E hr h=>?_)
 ·obtain⟨i,rfl,_⟩:=h;rfl
 ·obtain⟨i,rfl,k⟩:=h;refine⟨_,(ah (ay (bK fA (pv 0) (kL (aa (pg T.gy) (aa (pg T.jT) ai))) (by with_unfolding_all rfl)))),?_⟩
  try dsimp only[aM]
  walk_at"rd";refine⟨by show 2≤sizeLine;decide,λp hp=>?_⟩
  exact inN (l:=[4,5]) af (k _ (ao hp))
theorem rM(T:Txt K mg c):eU P w K mg base "end_quote" ["kind"] 1 (HF xQ):=by
 refine T.uB.has (k:=0) yh (λvs H Q E h=>?_) (λfa cdv A outer sh0 H vs Q E hr h=>?_)
 ·obtain⟨i,rfl,_⟩:=h;rfl
 ·obtain⟨i,rfl,k⟩:=h;refine⟨_,(ah (ay (og (az bh (pv 0) (pg T.dh) (aB _)) (pg T.gx) (pg T.jP)))),?_⟩
  try dsimp only[aM]
  have k0:=k H (aE.refl H);unfold xQ at k0;walk_at"rd"<;>simp_all
theorem ni(T:Txt K mg c):eU P w K mg base "place_behind_quote" ["quote"] 1 (HF Aa):=by
 refine T.iM.has (k:=0) m6 (λvs H Q E h=>?_) (λfa cdv A outer sh0 H vs Q E hr h=>?_)
 ·obtain⟨i,rfl,_⟩:=h;rfl
 ·obtain⟨i,rfl,k⟩:=h;refine⟨_,(ah (ay (og (az bh (pv 0) (pg T.gx) (aB _)) (pg T.dh) (pg T.eX)))),?_⟩
  try dsimp only[aM]
  have k0:=k H (aE.refl H);unfold Aa at k0;walk_at"rd"<;>simp_all
def nh(s:Str):Int:=(s.cps.getD 0 0:Nat)
def JE:Sp:=λvs H Q _=>∃e:Str,vs=[.str e]∧e.cps.size≤100∧∀H' l,aE H H'→H l=none→H' l=some (.lst ((38::Av e).map V.int))→Q (.ref l) H'
theorem lq(T:Txt K mg c):eU P w K mg base "reference_row" ["end"] 1 JE:=by
 refine T.mU.has (k:=0) gY (λvs H Q E h=>?_) (λfa cdv A outer sh0 H vs Q E hr h=>?_)
 ·obtain⟨e,rfl,_⟩:=h;rfl
 ·obtain⟨e,rfl,hz,k⟩:=h;refine⟨_,(ah (ay (eM yw (aU (aa (pg T.iN) ai)) (vF (own:=[("sign",1)]) rfl gY.nd (Iq (pv 0)) (iO (N:=["end","sign"]) (sc:=aj iQ) (by decide+kernel)) (λ_ _ _ _ _=>(cn (i:=1) gY.nd rfl (Or.inl rfl))) (λ_ _ _ _ _=>uZ) (λ_ _ _ _ _=>(aK sy (by rfl) T.Ap PyProof.Rows.boot_ord (aa (pv 1) ai))))))),?_⟩
  try dsimp only[aM]
  walk_at"rd";refine⟨by show 1≤sizeLine;decide,λp hp=>?_⟩
  have s1:aE H (upd H p (.lst [.int 38])):=ao hp;refine lcS (λn=>.int (n:Int)) (Nat.lt_of_le_of_lt hz (by decide)) (λch hc H2 Q' s2 q=>?_) λD H2 hD s2 hd=>?_
  ·walk_at"rd";exact⟨_,rfl,rfl,q H2 (aE.refl _)⟩
  ·refine BM (s2 _ _ af) hd (by rw[List.length_map];show 1+e.cps.size≤sizeLine;exact Nat.le_trans (show 1+e.cps.size≤101 by omega) (by decide)) λl hl=>?_
   refine k _ l (aE.new (s1.trans s2) hl) (s1.free (s2.free hl)) ?_;rw[af];unfold Av;rw[List.map_cons,List.map_map];rfl
theorem Gw{L:List (Str×Str)}{ys:List V}(h:F2 (λx y=>y=V.str x.1) L ys):ys=(L.map (·.1)).map V.str:=by
 induction h with
 |nil=>rfl
 |cons h _ ih=>rw[List.map_cons,List.map_cons,h,ih]
def HH:Sp:=λvs H Q _=>vs=[]∧∀H' l,aE H H'→H l=none→H' l=some (.lst ((dc.map (·.1)).map V.str))→Q (.ref l) H'
theorem rL(T:Txt K mg c):eU P w K mg base "reference_ends" [] 1 HH:=by
 refine T.lB.has (k:=0) dn (λvs H Q E h=>?_) (λfa cdv A outer sh0 H vs Q E hr h=>?_)
 ·obtain⟨rfl,_⟩:=h;rfl
 ·obtain⟨rfl,k⟩:=h;obtain⟨a,as,kn,ha,hR⟩:=T.AA;have REFERENCES:=kn;refine⟨_,(ah (ay (vF (g:=C9 K 2 (oG (dX 0) (oG (dX 1) Dc))) (own:=[("end",0),("sign",1)]) rfl dn.nd (yo (pg REFERENCES)) (iO (N:=["end","sign"]) (sc:=aj g7) (by decide+kernel)) (λ_ _ _ _ _=>(AJ (n:=2) rfl (ll (cn (i:=0) dn.nd rfl (Or.inl rfl) (Or.inr rfl)) (ll (cn (i:=1) dn.nd rfl (Or.inl rfl) (Or.inr rfl)) yp)))) (λ_ _ _ _ _=>uZ) (λ_ _ _ _ _=>(pv 0))))),?_⟩
  try dsimp only[aM]
  walk_at"rd";refine lcR (λ_=>true) (λx y _=>y=.str x.1) hR ha (λ_ _ _ _ _ _ _ h=>h) (λx hx H2 Q' s2 q=>q H2 (aE.refl _)) (λx hx _ H2 Q' s2 q=>?_) λD H' ys hD s1 hd rel=>?_
  ·walk_at"rd";exact q H2 _ (aE.refl _) (λz e=>by cases e) rfl
  ·refine k H' D s1 hD ?_;rw[hd];rw[List.filter_eq_self.mpr (λ_ _=>rfl)]at rel;have e:=Gw rel;rw[e]
def j5(b:Int):List Int:=match dc.find? (λx=>decide (nh x.2=b))with
 |some x=>38::Av x.1
 |none=>[]
theorem Cc{α β:Type}{R:α→β→Prop}{L:List α}{p:α→Bool}{ys:List β}{x:α}(rel:F2 R (L.filter p) ys)(h:L.find? p=some x):∃y r,ys=y::r∧R x y:=by
 have e:(L.filter p)[0]?=some x:=by
  rw[←h,←List.head?_filter];cases L.filter p<;>rfl
 obtain⟨y,hy,r⟩:=rel.get e;cases ys with
 |nil=>simp at hy
 |cons z r'=>cases hy;exact⟨_,_,rfl,r⟩
theorem l8{x:Str×Str}(h:x∈dc):x.1.cps.size≤100∧x.2.length=1:=by
 have:∀x∈dc,x.1.cps.size≤100∧x.2.length=1:=by decide+kernel
 exact this x h
def KG:Sp:=λvs H Q _=>∃b:Int,vs=[.int b]∧j5 b≠[]∧∀H' l,aE H H'→H' l=some (.lst ((j5 b).map V.int))→Q (.ref l) H'
theorem uQ(T:Txt K mg c):eU P w K mg base "reference_to" ["byte"] 2 KG:=by
 refine T.oM.has (k:=1) eV (λvs H Q E h=>?_) (λfa cdv A outer sh0 H vs Q E hr h=>?_)
 ·obtain⟨b,rfl,_⟩:=h;rfl
 ·obtain⟨b,rfl,hn,k⟩:=h;obtain⟨a,as,kn,ha,hR⟩:=T.AA;have REFERENCES:=kn;refine⟨_,(ah (ay (dz bD (vF (g:=C9 K 2 (oG (dX 1) (oG (dX 2) Dc))) (own:=[("end",1),("sign",2)]) rfl eV.nd (yo (pg REFERENCES)) (iO (N:=["byte","end","sign"]) (sc:=aj jq) (by decide+kernel)) (λ_ _ _ _ _=>(AJ (n:=2) rfl (ll (cn (i:=1) eV.nd rfl (Or.inl rfl) (Or.inr rfl)) (ll (cn (i:=2) eV.nd rfl (Or.inl rfl) (Or.inr rfl)) yp)))) (λ_ _ _ _ _=>(uY (az bh (aK sy (by rfl) T.Ap PyProof.Rows.boot_ord (aa (pv 2) ai)) (pv 0) (aB _)))) (λ_ _ _ _ _=>(pf (lq T) hr nox (aa (pv 1) ai)))) aA (λ_ _=>rfl)))),?_⟩
  try dsimp only[aM]
  walk_at"rd";refine lcR (λx=>decide (nh x.2=b)) (λx y H=>∃l,y=.ref l∧H l=some (.lst ((38::Av x.1).map V.int))) hR ha ?_ (λx hx H2 Q' s2 q=>?_) (λx hx _ H2 Q' s2 q=>?_) λD H' ys hD s1 hd rel=>?_
  ·rintro x y H1 H2 D f nd ⟨l,rfl,hl⟩;exact⟨l,rfl,f _ _ hl λz=>nd (by rw[z])⟩
  ·walk_at"rd";refine⟨_,rfl,(l8 hx).2,?_⟩;walk_at"rd";exact q H2 (aE.refl _)
  ·walk_at"rd";exact⟨_,rfl,(l8 hx).1,λH3 l s3 hl hd=>q H3 (.ref l) s3 (λz e=>by cases e;exact hl) ⟨l,rfl,hd⟩⟩
  ·walk_at"rd";have hk:=λl=>k H' l s1;unfold j5 at hn hk;cases hf:dc.find? (λx=>decide (nh x.2=b))with
   |none=>rw[hf]at hn;exact absurd rfl hn
   |some x=>
    rw[hf]at hk;obtain⟨y,r,rfl,l,rfl,hl⟩:=Cc rel hf;exact⟨D,_,_,_,rfl,rfl,SqL.of hd,c6 (j:=0) (v:=V.ref l) rfl,hk l hl⟩
def nW(r:List Int):Option Int:=(dc.find? (λx=>decide (38::Av x.1=r))).map λx=>nh x.2
def HM(K:PySem.W.Frag):Sp:=λvs H Q _=>∃(a:Addr)(r:List Int)(b:Int),vs=[.ref a]∧SqL K H a (r.map V.int)∧nW r=some b∧∀H',aE H H'→Q (.int b) H'
theorem tH(T:Txt K mg c):eU P w K mg base "referred_byte" ["reference"] 2 (HM K):=by
 refine T.mT.has (k:=1) d5 (λvs H Q E h=>?_) (λfa cdv A outer sh0 H vs Q E hr h=>?_)
 ·obtain⟨a,r,b,rfl,_⟩:=h;rfl
 ·obtain⟨a0,r,b,rfl,hr0,hb,k⟩:=h;obtain⟨a,as,kn,ha,hR⟩:=T.AA;have REFERENCES:=kn;refine⟨_,(ah (ay (dz bD (vF (g:=C9 K 2 (oG (dX 1) (oG (dX 2) Dc))) (own:=[("end",1),("sign",2)]) rfl d5.nd (yo (pg REFERENCES)) (iO (N:=["reference","end","sign"]) (sc:=aj iP) (by decide+kernel)) (λ_ _ _ _ _=>(AJ (n:=2) rfl (ll (cn (i:=1) d5.nd rfl (Or.inl rfl) (Or.inr rfl)) (ll (cn (i:=2) d5.nd rfl (Or.inl rfl) (Or.inr rfl)) yp)))) (λ_ _ _ _ _=>(uY (az (F3 K hr.units) (pf (lq T) hr nox (aa (pv 1) ai)) (pv 0) (aB _)))) (λ_ _ _ _ _=>(aK sy (by rfl) T.Ap PyProof.Rows.boot_ord (aa (pv 2) ai)))) aA (λ_ _=>rfl)))),?_⟩
  try dsimp only[aM]
  walk_at"rd";refine lcR (λx=>decide (38::Av x.1=r)) (λx y H=>y=.int (nh x.2)) hR ha (λ_ _ _ _ _ _ _ h=>h) (λx hx H2 Q' s2 q=>?_) (λx hx _ H2 Q' s2 q=>?_) λD H' ys hD s1 hd rel=>?_
  ·walk_at"rd";refine⟨_,rfl,(l8 hx).1,λH3 l s3 hl hd=>?_⟩;walk_at"rd";refine JZ (SqL.of hd) ((s2.trans s3).seq hr0) ?_;walk_at"rd";exact q H3 s3
  ·walk_at"rd";exact⟨_,rfl,(l8 hx).2,q H2 _ (aE.refl _) (λz e=>by cases e) rfl⟩
  ·walk_at"rd";unfold nW at hb;obtain⟨x,hf,rfl⟩:=Option.map_eq_some_iff.mp hb;obtain⟨y,r',rfl,rfl⟩:=Cc rel hf;exact⟨D,_,_,_,rfl,rfl,SqL.of hd,c6 (j:=0) rfl,k H' s1⟩
def jN(b kd:Int):Bool:=[60,38].contains b||(yP kd&&decide (b=xQ kd))
def Fu:Sp:=λvs H Q _=>∃b kd,vs=[.int b,.int kd]∧∀H',aE H H'→Q (.bl (jN b kd)) H'
theorem qP(T:Txt K mg c):eU P w K mg base "would_break_out" ["byte","kind"] 2 Fu:=by
 refine T.kq.has (k:=1) qD (λvs H Q E h=>?_) (λfa cdv A outer sh0 H vs Q E hr h=>?_)
 ·obtain⟨b,kd,rfl,_⟩:=h;rfl
 ·obtain⟨b,kd,rfl,k⟩:=h;refine⟨_,(ah (ay (uh (bK fA (pv 0) (kL (aa (pg T.yX) (aa (pg T.iN) ai))) (by with_unfolding_all rfl)) (kM (yq (pf (oo T) hr nox (aa (pv 1) ai)) (kM (bK bh (pv 0) (pf (rM T) hr nox (aa (pv 1) ai)) (aB _)))))))),?_⟩
  try dsimp only[aM]
  unfold jN at k;walk_at"rd";refine⟨by show 2≤sizeLine;decide,λp hp=>?_⟩
  have s1:aE H (upd H p (.tup [.int 60,.int 38])):=ao hp;refine inN (l:=[60,38]) af ?_;have k1:=k _ s1;walk_at"rd"
  ·rename_i hb;rw[hb,Bool.true_or]at k1;exact k1
  ·refine c_I λH2 s2=>?_;have k2:=k _ (s1.trans s2);walk_at"rd"
   ·refine Je λH3 s3=>?_;have k3:=k _ ((s1.trans s2).trans s3);walk_at"rd"
    simp_all
   ·simp_all
def wr(kd:Int)(l:List Int):List Int:=l.flatMap λb=>if jN b kd=true then j5 b else[b]
theorem xm(b:Int):(j5 b).length≤6:=by
 unfold j5
 split
 ·rename_i x h;have:∀x∈dc,(38::Av x.1).length≤6:=by decide+kernel
  exact this x (List.mem_of_find?_eq_some h)
 ·exact Nat.zero_le _
theorem Bp{b kd:Int}(h:jN b kd=true):j5 b≠[]:=by
 unfold jN at h;rw[Bool.or_eq_true]at h;rcases h with h|h
 ·have:b=60∨b=38:=by simpa using h
  rcases this with rfl|rfl<;>decide+kernel
 ·rw[Bool.and_eq_true,decide_eq_true_eq]at h;unfold xQ at h
  split at h
  ·rw[h.2];decide+kernel
  ·rw[h.2];decide+kernel
theorem Dn(kd:Int):∀l:List Int,(wr kd l).length≤6*l.length
 |[]=>Nat.le_refl _
 |b::l=>by
  have:=Dn kd l;unfold wr at this⊢;rw[List.flatMap_cons,List.length_append,List.length_cons];have:(if jN b kd=true then j5 b else[b]).length≤6:=by
   split
   ·exact xm b
   ·show 1≤6;decide
  omega
theorem E8(kd:Int)(l:List Int)(b:Int):wr kd (l++[b])=wr kd l++(if jN b kd=true then j5 b else[b]):=by
 unfold wr;rw[List.flatMap_append,List.flatMap_cons,List.flatMap_nil,List.append_nil]
def KC(K:PySem.W.Frag):Sp:=λvs H Q _=>∃(a:Addr)(l:List Int)(kd:Int),vs=[.ref a,.int kd]∧SqL K H a (l.map V.int)∧l.length≤1000∧∀H' p,aE H H'→H p=none→H' p=some (.lst ((wr kd l).map V.int))→Q (.ref p) H'
theorem DJ{n:Nat}(h:n≤7000):n≤sizeLine:=Nat.le_trans h (by decide)
theorem int_at{l:List Int}{i:Nat}{x:V}(h:(l.map V.int)[i]?=some x):∃z,l[i]?=some z∧x=.int z:=by
 rw[List.getElem?_map]at h;obtain⟨z,h1,h2⟩:=Option.map_eq_some_iff.mp h;exact⟨z,h1,h2.symm⟩
theorem pI(T:Txt K mg c):eU P w K mg base "written_in_place" ["text","kind"] 3 (KC K):=by
 refine T.jL.has (k:=2) eA (λvs H Q E h=>?_) (λfa cdv A outer sh0 H vs Q E hr h=>?_)
 ·obtain⟨a,l,kd,rfl,_⟩:=h;rfl
 ·obtain⟨a,l,kd,rfl,hl,hz,k⟩:=h;refine⟨_,(ag (aI (i:=2) eA.nd rfl (Or.inl rfl) (aU ai)) (ag (qN PassesOwn.leaving rfl (j6 (pv 0)) (cn (i:=3) eA.nd rfl (Or.inl rfl)) (ah (aP (dk (pf (qP T) hr nox (aa (pv 3) (aa (pv 1) ai)))) (ah (ax (dO PySem.F.plainAttrs_list PySem.F.slot_list_extend PySem.F.type_list_extend tM (pv 2) (aa (pf (uQ T) hr nox (aa (pv 3) ai)) ai)))) (ah (ax (dO PySem.F.plainAttrs_list PySem.F.slot_list_append PySem.F.type_list_append bq (pv 2) (aa (pv 3) ai))))))) (ah (ay (pv 2))))),?_⟩
  try dsimp only[aM]
  walk_at"rd";refine⟨Nat.zero_le _,λp hp=>?_⟩;have s1:aE H (upd H p (.lst [])):=ao hp;refine Kj (λi σ H'=>∃v,σ=[some (.ref a),some (.int kd),some (.ref p),v]∧aE H H'∧H' p=some (.lst ((wr kd (l.take i)).map V.int))) rfl (s1.seq hl) ⟨none,rfl,s1,af⟩ (λi σ H' _⟨_,_,s,_⟩=>s.seq hl) ?_ ?_
  ·rintro i x σ H' hi ⟨v,rfl,s2,hd⟩;obtain⟨z,hz',rfl⟩:=int_at hi;have sn:=E8 kd (l.take i) z;rw[←take_snoc hz']at sn;have hlen:((wr kd (l.take i)).map V.int).length≤6000:=by
    rw[List.length_map];exact Nat.le_trans (Dn _ _) (by rw[List.length_take];omega)
   walk_at"rd";refine⟨z,kd,rfl,λH3 s3=>?_⟩;walk_at"rd"
   ·rename_i hb;refine tyL (s3 _ _ hd) ?_;walk_at"rd";refine⟨z,rfl,Bp hb,λH4 q s4 hq=>?_⟩;walk_at"rd";have h6:=xm z;refine Ep (s4 _ _ (s3 _ _ hd)) hq (DJ (by rw[List.length_map (as:=j5 z)];omega)) ?_
    rw[if_pos hb]at sn;refine⟨_,rfl,aE.upd ((s2.trans s3).trans s4) hp,?_⟩;rw[af,sn,List.map_append]
   ·rename_i hb;refine tyL (s3 _ _ hd) ?_;walk_at"rd";refine eO (s3 _ _ hd) (Nat.lt_of_le_of_lt hlen (by decide)) ?_
    rw[if_neg (by rw[hb];exact Bool.false_ne_true)]at sn
    refine⟨_,rfl,aE.upd (s2.trans s3) hp,?_⟩;rw[af,sn,List.map_append];rfl
  ·rintro σ H' ⟨v,rfl,s2,hd⟩;rw[List.length_map,List.take_length]at hd;walk_at"rd";exact k H' p s2 hp hd
section
variable {K:PySem.W.Frag}{mg:Str→Option Value}{c:Cs}{Q:VK}{H:Hp}{p dx:Addr}{D:Ends}{σ:L2.St}
theorem dW(f:Str){C C' dx dx':Addr}{fs fs':List (Str×V)}{v:V}(h1:fs.lookup f=none)(h2:fs'.lookup f=some v):HO.ins C dx fs≠HO.ins C' dx' fs':=by
 intro h;injection h with _ _ h
 rw[h,h2]at h1;cases h1
theorem wi{C:Addr}{f:Str}{y:V}{fs:List (Str×V)}(cl:Cls K C)(na:au K C f)(hl:fs.length<1000)(q:D.nx σ (upd H p (.ins C dx (e9 f y fs)))):
  ∃a C' dx' fs',V.ref p=.ref a∧upd H p (.ins C dx fs) a=some (.ins C' dx' fs')∧Cls K C'∧au K C' f∧fs'.length<1000∧D.nx σ (upd (upd H p (.ins C dx fs)) a (.ins C' dx' (e9 f y fs'))):=
 ⟨p,C,dx,fs,rfl,af,cl,na,hl,by rw[fN];exact q⟩
def bO(v0 v1 v2 v3:V):List (Str×V):=[(("what":Str),v0),(("kind":Str),v1),(("begin":Str),v2),(("end":Str),v3)]
theorem Txt.rW(T:Txt K mg c):au K c.Token "what":=T.rY _ (by simp)
theorem bY(T:Txt K mg c){R:V→Prop}{v0 v1 v2 v3:V}(h:H p=some (.ins c.Token dx (bO v0 v1 v2 v3)))(q:R v0):∃a C dx fs v,V.ref p=.ref a∧H a=some (.ins C dx fs)∧Cls K C∧au K C "what"∧fs.lookup ("what":Str)=some v∧R v:=⟨p,_,dx,_,_,rfl,h,T.ic.cl,T.rW,rfl,q⟩
theorem Txt.rX(T:Txt K mg c):au K c.Token "kind":=T.rY _ (by simp)
theorem hW(T:Txt K mg c){R:V→Prop}{v0 v1 v2 v3:V}(h:H p=some (.ins c.Token dx (bO v0 v1 v2 v3)))(q:R v1):∃a C dx fs v,V.ref p=.ref a∧H a=some (.ins C dx fs)∧Cls K C∧au K C "kind"∧fs.lookup ("kind":Str)=some v∧R v:=⟨p,_,dx,_,_,rfl,h,T.ic.cl,T.rX,rfl,q⟩
theorem Txt.qg(T:Txt K mg c):au K c.Token "begin":=T.rY _ (by simp)
theorem cR(T:Txt K mg c){R:V→Prop}{v0 v1 v2 v3:V}(h:H p=some (.ins c.Token dx (bO v0 v1 v2 v3)))(q:R v2):∃a C dx fs v,V.ref p=.ref a∧H a=some (.ins C dx fs)∧Cls K C∧au K C "begin"∧fs.lookup ("begin":Str)=some v∧R v:=⟨p,_,dx,_,_,rfl,h,T.ic.cl,T.qg,rfl,q⟩
theorem Txt.uk(T:Txt K mg c):au K c.Token "end":=T.rY _ (by simp)
theorem i9(T:Txt K mg c){R:V→Prop}{v0 v1 v2 v3:V}(h:H p=some (.ins c.Token dx (bO v0 v1 v2 v3)))(q:R v3):∃a C dx fs v,V.ref p=.ref a∧H a=some (.ins C dx fs)∧Cls K C∧au K C "end"∧fs.lookup ("end":Str)=some v∧R v:=⟨p,_,dx,_,_,rfl,h,T.ic.cl,T.uk,rfl,q⟩
def bG(v0 v1 v2 v3 v4 v5:V):List (Str×V):=[(("row":Str),v0),(("is_template":Str),v1),(("place":Str),v2),(("kind":Str),v3),(("sections":Str),v4),(("tokens":Str),v5)]
theorem rb{m:Str}{R:Prop}{v0 v1 v2 v3 v4 v5:V}(h:H p=some (.ins c.Scanner dx (bG v0 v1 v2 v3 v4 v5)))(q:R)(hm:(bG v0 v1 v2 v3 v4 v5).lookup m=none:=by rfl):∃a dx fs,V.ref p=.ref a∧H a=some (.ins c.Scanner dx fs)∧fs.lookup m=none∧R:=⟨p,dx,_,rfl,h,hm,q⟩
theorem Txt.ql(T:Txt K mg c):au K c.Scanner "row":=T.g9 _ (by simp)
theorem vA(T:Txt K mg c){R:V→Prop}{v0 v1 v2 v3 v4 v5:V}(h:H p=some (.ins c.Scanner dx (bG v0 v1 v2 v3 v4 v5)))(q:R v0):∃a C dx fs v,V.ref p=.ref a∧H a=some (.ins C dx fs)∧Cls K C∧au K C "row"∧fs.lookup ("row":Str)=some v∧R v:=⟨p,_,dx,_,_,rfl,h,T.bF.cl,T.ql,rfl,q⟩
theorem Txt.gL(T:Txt K mg c):au K c.Scanner "is_template":=T.g9 _ (by simp)
theorem l0(T:Txt K mg c){R:V→Prop}{v0 v1 v2 v3 v4 v5:V}(h:H p=some (.ins c.Scanner dx (bG v0 v1 v2 v3 v4 v5)))(q:R v1):∃a C dx fs v,V.ref p=.ref a∧H a=some (.ins C dx fs)∧Cls K C∧au K C "is_template"∧fs.lookup ("is_template":Str)=some v∧R v:=⟨p,_,dx,_,_,rfl,h,T.bF.cl,T.gL,rfl,q⟩
theorem Txt.iS(T:Txt K mg c):au K c.Scanner "place":=T.g9 _ (by simp)
theorem tw(T:Txt K mg c){R:V→Prop}{v0 v1 v2 v3 v4 v5:V}(h:H p=some (.ins c.Scanner dx (bG v0 v1 v2 v3 v4 v5)))(q:R v2):∃a C dx fs v,V.ref p=.ref a∧H a=some (.ins C dx fs)∧Cls K C∧au K C "place"∧fs.lookup ("place":Str)=some v∧R v:=⟨p,_,dx,_,_,rfl,h,T.bF.cl,T.iS,rfl,q⟩
theorem tY(T:Txt K mg c){v0 v1 v3 v4 v5:V}{k:Int}{tv:TE}{i:Nat}(h:H p=some (.ins c.Scanner dx (bG v0 v1 (.int k) v3 v4 v5)))(h0:σ[i]?=some (some (.ref p)))(q:tv σ H λy H2=>∃j,y=.int j∧H2 p=some (.ins c.Scanner dx (bG v0 v1 (.int k) v3 v4 v5))∧D.nx σ (upd H2 p (.ins c.Scanner dx (bG v0 v1 (.int (k+j)) v3 v4 v5))))(mono:∀(R S:VK),(∀v H,R v H→S v H)→tv σ H R→tv σ H S):rG K (b9 i) tv DY "place" D σ H:=by
 refine⟨_,h0,p,_,dx,_,_,rfl,h,T.bF.cl,T.iS,rfl,mono _ _ ?_ q⟩;rintro v H2 ⟨j,rfl,h2,q2⟩;exact⟨k,j,rfl,rfl,dx,_,h2,(by show 6<1000;decide),q2⟩
theorem Txt.jB(T:Txt K mg c):au K c.Scanner "kind":=T.g9 _ (by simp)
theorem uN(T:Txt K mg c){R:V→Prop}{v0 v1 v2 v3 v4 v5:V}(h:H p=some (.ins c.Scanner dx (bG v0 v1 v2 v3 v4 v5)))(q:R v3):∃a C dx fs v,V.ref p=.ref a∧H a=some (.ins C dx fs)∧Cls K C∧au K C "kind"∧fs.lookup ("kind":Str)=some v∧R v:=⟨p,_,dx,_,_,rfl,h,T.bF.cl,T.jB,rfl,q⟩
theorem uG(T:Txt K mg c){v0 v1 v2 v3 v4 v5 y:V}(h:H p=some (.ins c.Scanner dx (bG v0 v1 v2 v3 v4 v5)))(q:D.nx σ (upd H p (.ins c.Scanner dx (bG v0 v1 v2 y v4 v5)))):∃a C dx fs,V.ref p=.ref a∧H a=some (.ins C dx fs)∧Cls K C∧au K C "kind"∧fs.length<1000∧D.nx σ (upd H a (.ins C dx (e9 "kind" y fs))):=⟨p,_,dx,_,rfl,h,T.bF.cl,T.jB,(by show 6<1000;decide),q⟩
theorem Txt.jA(T:Txt K mg c):au K c.Scanner "sections":=T.g9 _ (by simp)
theorem pH(T:Txt K mg c){R:V→Prop}{v0 v1 v2 v3 v4 v5:V}(h:H p=some (.ins c.Scanner dx (bG v0 v1 v2 v3 v4 v5)))(q:R v4):∃a C dx fs v,V.ref p=.ref a∧H a=some (.ins C dx fs)∧Cls K C∧au K C "sections"∧fs.lookup ("sections":Str)=some v∧R v:=⟨p,_,dx,_,_,rfl,h,T.bF.cl,T.jA,rfl,q⟩
theorem Txt.lx(T:Txt K mg c):au K c.Scanner "tokens":=T.g9 _ (by simp)
theorem rH(T:Txt K mg c){R:V→Prop}{v0 v1 v2 v3 v4 v5:V}(h:H p=some (.ins c.Scanner dx (bG v0 v1 v2 v3 v4 v5)))(q:R v5):∃a C dx fs v,V.ref p=.ref a∧H a=some (.ins C dx fs)∧Cls K C∧au K C "tokens"∧fs.lookup ("tokens":Str)=some v∧R v:=⟨p,_,dx,_,_,rfl,h,T.bF.cl,T.lx,rfl,q⟩
def pw(v0 v1:V):List (Str×V):=[(("what":Str),v0),(("row":Str),v1)]
theorem Txt.rZ(T:Txt K mg c):au K c.Thing "what":=T.yC _ (by simp)
theorem pX(T:Txt K mg c){R:V→Prop}{v0 v1:V}(h:H p=some (.ins c.Thing dx (pw v0 v1)))(q:R v0):∃a C dx fs v,V.ref p=.ref a∧H a=some (.ins C dx fs)∧Cls K C∧au K C "what"∧fs.lookup ("what":Str)=some v∧R v:=⟨p,_,dx,_,_,rfl,h,T.ph.cl,T.rZ,rfl,q⟩
theorem Txt.um(T:Txt K mg c):au K c.Thing "row":=T.yC _ (by simp)
theorem lZ(T:Txt K mg c){R:V→Prop}{v0 v1:V}(h:H p=some (.ins c.Thing dx (pw v0 v1)))(q:R v1):∃a C dx fs v,V.ref p=.ref a∧H a=some (.ins C dx fs)∧Cls K C∧au K C "row"∧fs.lookup ("row":Str)=some v∧R v:=⟨p,_,dx,_,_,rfl,h,T.ph.cl,T.um,rfl,q⟩
def c4(v0 v1 v2 v3 v4:V):List (Str×V):=[(("what":Str),v0),(("kind":Str),v1),(("row":Str),v2),(("key":Str),v3),(("partner":Str),v4)]
theorem Txt.r0(T:Txt K mg c):au K c.Piece "what":=T.pb _ (by simp)
theorem cE(T:Txt K mg c){R:V→Prop}{v0 v1 v2 v3 v4:V}(h:H p=some (.ins c.Piece dx (c4 v0 v1 v2 v3 v4)))(q:R v0):∃a C dx fs v,V.ref p=.ref a∧H a=some (.ins C dx fs)∧Cls K C∧au K C "what"∧fs.lookup ("what":Str)=some v∧R v:=⟨p,_,dx,_,_,rfl,h,T.d9.cl,T.r0,rfl,q⟩
theorem Txt.r6(T:Txt K mg c):au K c.Piece "kind":=T.pb _ (by simp)
theorem pY(T:Txt K mg c){R:V→Prop}{v0 v1 v2 v3 v4:V}(h:H p=some (.ins c.Piece dx (c4 v0 v1 v2 v3 v4)))(q:R v1):∃a C dx fs v,V.ref p=.ref a∧H a=some (.ins C dx fs)∧Cls K C∧au K C "kind"∧fs.lookup ("kind":Str)=some v∧R v:=⟨p,_,dx,_,_,rfl,h,T.d9.cl,T.r6,rfl,q⟩
theorem Txt.uo(T:Txt K mg c):au K c.Piece "row":=T.pb _ (by simp)
theorem l6(T:Txt K mg c){R:V→Prop}{v0 v1 v2 v3 v4:V}(h:H p=some (.ins c.Piece dx (c4 v0 v1 v2 v3 v4)))(q:R v2):∃a C dx fs v,V.ref p=.ref a∧H a=some (.ins C dx fs)∧Cls K C∧au K C "row"∧fs.lookup ("row":Str)=some v∧R v:=⟨p,_,dx,_,_,rfl,h,T.d9.cl,T.uo,rfl,q⟩
theorem Txt.uq(T:Txt K mg c):au K c.Piece "key":=T.pb _ (by simp)
theorem l7(T:Txt K mg c){R:V→Prop}{v0 v1 v2 v3 v4:V}(h:H p=some (.ins c.Piece dx (c4 v0 v1 v2 v3 v4)))(q:R v3):∃a C dx fs v,V.ref p=.ref a∧H a=some (.ins C dx fs)∧Cls K C∧au K C "key"∧fs.lookup ("key":Str)=some v∧R v:=⟨p,_,dx,_,_,rfl,h,T.d9.cl,T.uq,rfl,q⟩
theorem Txt.iT(T:Txt K mg c):au K c.Piece "partner":=T.pb _ (by simp)
theorem d7(T:Txt K mg c){R:V→Prop}{v0 v1 v2 v3 v4:V}(h:H p=some (.ins c.Piece dx (c4 v0 v1 v2 v3 v4)))(q:R v4):∃a C dx fs v,V.ref p=.ref a∧H a=some (.ins C dx fs)∧Cls K C∧au K C "partner"∧fs.lookup ("partner":Str)=some v∧R v:=⟨p,_,dx,_,_,rfl,h,T.d9.cl,T.iT,rfl,q⟩
theorem kW(T:Txt K mg c){v0 v1 v2 v3 v4 y:V}(h:H p=some (.ins c.Piece dx (c4 v0 v1 v2 v3 v4)))(q:D.nx σ (upd H p (.ins c.Piece dx (c4 v0 v1 v2 v3 y)))):∃a C dx fs,V.ref p=.ref a∧H a=some (.ins C dx fs)∧Cls K C∧au K C "partner"∧fs.length<1000∧D.nx σ (upd H a (.ins C dx (e9 "partner" y fs))):=⟨p,_,dx,_,rfl,h,T.d9.cl,T.iT,(by show 5<1000;decide),q⟩
def cG(v0 v1 v2:V):List (Str×V):=[(("template":Str),v0),(("pieces":Str),v1),(("begun":Str),v2)]
theorem gv{m:Str}{R:Prop}{v0 v1 v2:V}(h:H p=some (.ins c.PieceReader dx (cG v0 v1 v2)))(q:R)(hm:(cG v0 v1 v2).lookup m=none:=by rfl):∃a dx fs,V.ref p=.ref a∧H a=some (.ins c.PieceReader dx fs)∧fs.lookup m=none∧R:=⟨p,dx,_,rfl,h,hm,q⟩
theorem Txt.gb(T:Txt K mg c):au K c.PieceReader "template":=T.ia _ (by simp)
theorem lb(T:Txt K mg c){R:V→Prop}{v0 v1 v2:V}(h:H p=some (.ins c.PieceReader dx (cG v0 v1 v2)))(q:R v0):∃a C dx fs v,V.ref p=.ref a∧H a=some (.ins C dx fs)∧Cls K C∧au K C "template"∧fs.lookup ("template":Str)=some v∧R v:=⟨p,_,dx,_,_,rfl,h,T.b7.cl,T.gb,rfl,q⟩
theorem Txt.iE(T:Txt K mg c):au K c.PieceReader "pieces":=T.ia _ (by simp)
theorem ng(T:Txt K mg c){R:V→Prop}{v0 v1 v2:V}(h:H p=some (.ins c.PieceReader dx (cG v0 v1 v2)))(q:R v1):∃a C dx fs v,V.ref p=.ref a∧H a=some (.ins C dx fs)∧Cls K C∧au K C "pieces"∧fs.lookup ("pieces":Str)=some v∧R v:=⟨p,_,dx,_,_,rfl,h,T.b7.cl,T.iE,rfl,q⟩
theorem Txt.i3(T:Txt K mg c):au K c.PieceReader "begun":=T.ia _ (by simp)
theorem nV(T:Txt K mg c){R:V→Prop}{v0 v1 v2:V}(h:H p=some (.ins c.PieceReader dx (cG v0 v1 v2)))(q:R v2):∃a C dx fs v,V.ref p=.ref a∧H a=some (.ins C dx fs)∧Cls K C∧au K C "begun"∧fs.lookup ("begun":Str)=some v∧R v:=⟨p,_,dx,_,_,rfl,h,T.b7.cl,T.i3,rfl,q⟩
def yN(v0 v1:V):List (Str×V):=[(("length":Str),v0),(("written":Str),v1)]
theorem Txt.qh(T:Txt K mg c):au K c.Text "length":=T.AU _ (by simp)
theorem nS(T:Txt K mg c){R:V→Prop}{v0 v1:V}(h:H p=some (.ins c.Text dx (yN v0 v1)))(q:R v0):∃a C dx fs v,V.ref p=.ref a∧H a=some (.ins C dx fs)∧Cls K C∧au K C "length"∧fs.lookup ("length":Str)=some v∧R v:=⟨p,_,dx,_,_,rfl,h,T.tR.cl,T.qh,rfl,q⟩
theorem Txt.ou(T:Txt K mg c):au K c.Text "written":=T.AU _ (by simp)
theorem mM(T:Txt K mg c){R:V→Prop}{v0 v1:V}(h:H p=some (.ins c.Text dx (yN v0 v1)))(q:R v1):∃a C dx fs v,V.ref p=.ref a∧H a=some (.ins C dx fs)∧Cls K C∧au K C "written"∧fs.lookup ("written":Str)=some v∧R v:=⟨p,_,dx,_,_,rfl,h,T.tR.cl,T.ou,rfl,q⟩
def ko(v0 v1:V):List (Str×V):=[(("texts":Str),v0),(("lists":Str),v1)]
theorem Txt.qj(T:Txt K mg c):au K c.Scope "texts":=T.yD _ (by simp)
theorem cg(T:Txt K mg c){R:V→Prop}{v0 v1:V}(h:H p=some (.ins c.Scope dx (ko v0 v1)))(q:R v0):∃a C dx fs v,V.ref p=.ref a∧H a=some (.ins C dx fs)∧Cls K C∧au K C "texts"∧fs.lookup ("texts":Str)=some v∧R v:=⟨p,_,dx,_,_,rfl,h,T.pj.cl,T.qj,rfl,q⟩
theorem Txt.qk(T:Txt K mg c):au K c.Scope "lists":=T.yD _ (by simp)
theorem dM(T:Txt K mg c){R:V→Prop}{v0 v1:V}(h:H p=some (.ins c.Scope dx (ko v0 v1)))(q:R v1):∃a C dx fs v,V.ref p=.ref a∧H a=some (.ins C dx fs)∧Cls K C∧au K C "lists"∧fs.lookup ("lists":Str)=some v∧R v:=⟨p,_,dx,_,_,rfl,h,T.pj.cl,T.qk,rfl,q⟩
def ee(v0 v1 v2:V):List (Str×V):=[(("trail":Str),v0),(("entry_count":Str),v1),(("byte_count":Str),v2)]
theorem eT{m:Str}{R:Prop}{v0 v1 v2:V}(h:H p=some (.ins c.Store dx (ee v0 v1 v2)))(q:R)(hm:(ee v0 v1 v2).lookup m=none:=by rfl):∃a dx fs,V.ref p=.ref a∧H a=some (.ins c.Store dx fs)∧fs.lookup m=none∧R:=⟨p,dx,_,rfl,h,hm,q⟩
theorem Txt.qi(T:Txt K mg c):au K c.Store "trail":=T.u9 _ (by simp)
theorem bB(T:Txt K mg c){R:V→Prop}{v0 v1 v2:V}(h:H p=some (.ins c.Store dx (ee v0 v1 v2)))(q:R v0):∃a C dx fs v,V.ref p=.ref a∧H a=some (.ins C dx fs)∧Cls K C∧au K C "trail"∧fs.lookup ("trail":Str)=some v∧R v:=⟨p,_,dx,_,_,rfl,h,T.ie.cl,T.qi,rfl,q⟩
theorem Txt.eC(T:Txt K mg c):au K c.Store "entry_count":=T.u9 _ (by simp)
theorem nU(T:Txt K mg c){R:V→Prop}{v0 v1 v2:V}(h:H p=some (.ins c.Store dx (ee v0 v1 v2)))(q:R v1):∃a C dx fs v,V.ref p=.ref a∧H a=some (.ins C dx fs)∧Cls K C∧au K C "entry_count"∧fs.lookup ("entry_count":Str)=some v∧R v:=⟨p,_,dx,_,_,rfl,h,T.ie.cl,T.eC,rfl,q⟩
theorem nH(T:Txt K mg c){v0 v1 v2 y:V}(h:H p=some (.ins c.Store dx (ee v0 v1 v2)))(q:D.nx σ (upd H p (.ins c.Store dx (ee v0 y v2)))):∃a C dx fs,V.ref p=.ref a∧H a=some (.ins C dx fs)∧Cls K C∧au K C "entry_count"∧fs.length<1000∧D.nx σ (upd H a (.ins C dx (e9 "entry_count" y fs))):=⟨p,_,dx,_,rfl,h,T.ie.cl,T.eC,(by show 3<1000;decide),q⟩
theorem Txt.fc(T:Txt K mg c):au K c.Store "byte_count":=T.u9 _ (by simp)
theorem pG(T:Txt K mg c){R:V→Prop}{v0 v1 v2:V}(h:H p=some (.ins c.Store dx (ee v0 v1 v2)))(q:R v2):∃a C dx fs v,V.ref p=.ref a∧H a=some (.ins C dx fs)∧Cls K C∧au K C "byte_count"∧fs.lookup ("byte_count":Str)=some v∧R v:=⟨p,_,dx,_,_,rfl,h,T.ie.cl,T.fc,rfl,q⟩
theorem pC(T:Txt K mg c){v0 v1 v2 y:V}(h:H p=some (.ins c.Store dx (ee v0 v1 v2)))(q:D.nx σ (upd H p (.ins c.Store dx (ee v0 v1 y)))):∃a C dx fs,V.ref p=.ref a∧H a=some (.ins C dx fs)∧Cls K C∧au K C "byte_count"∧fs.length<1000∧D.nx σ (upd H a (.ins C dx (e9 "byte_count" y fs))):=⟨p,_,dx,_,rfl,h,T.ie.cl,T.fc,(by show 3<1000;decide),q⟩
def cF(v0 v1 v2 v3 v4:V):List (Str×V):=[(("pieces":Str),v0),(("place":Str),v1),(("scopes":Str),v2),(("coming":Str),v3),(("rows":Str),v4)]
theorem yU{m:Str}{R:Prop}{v0 v1 v2 v3 v4:V}(h:H p=some (.ins c.Walk dx (cF v0 v1 v2 v3 v4)))(q:R)(hm:(cF v0 v1 v2 v3 v4).lookup m=none:=by rfl):∃a dx fs,V.ref p=.ref a∧H a=some (.ins c.Walk dx fs)∧fs.lookup m=none∧R:=⟨p,dx,_,rfl,h,hm,q⟩
theorem Txt.qe(T:Txt K mg c):au K c.Walk "pieces":=T.tK _ (by simp)
theorem jw(T:Txt K mg c){R:V→Prop}{v0 v1 v2 v3 v4:V}(h:H p=some (.ins c.Walk dx (cF v0 v1 v2 v3 v4)))(q:R v0):∃a C dx fs v,V.ref p=.ref a∧H a=some (.ins C dx fs)∧Cls K C∧au K C "pieces"∧fs.lookup ("pieces":Str)=some v∧R v:=⟨p,_,dx,_,_,rfl,h,T.gm.cl,T.qe,rfl,q⟩
theorem Txt.je(T:Txt K mg c):au K c.Walk "place":=T.tK _ (by simp)
theorem pW(T:Txt K mg c){R:V→Prop}{v0 v1 v2 v3 v4:V}(h:H p=some (.ins c.Walk dx (cF v0 v1 v2 v3 v4)))(q:R v1):∃a C dx fs v,V.ref p=.ref a∧H a=some (.ins C dx fs)∧Cls K C∧au K C "place"∧fs.lookup ("place":Str)=some v∧R v:=⟨p,_,dx,_,_,rfl,h,T.gm.cl,T.je,rfl,q⟩
theorem kE(T:Txt K mg c){v0 v1 v2 v3 v4 y:V}(h:H p=some (.ins c.Walk dx (cF v0 v1 v2 v3 v4)))(q:D.nx σ (upd H p (.ins c.Walk dx (cF v0 y v2 v3 v4)))):∃a C dx fs,V.ref p=.ref a∧H a=some (.ins C dx fs)∧Cls K C∧au K C "place"∧fs.length<1000∧D.nx σ (upd H a (.ins C dx (e9 "place" y fs))):=⟨p,_,dx,_,rfl,h,T.gm.cl,T.je,(by show 5<1000;decide),q⟩
theorem wZ(T:Txt K mg c){v0 v2 v3 v4:V}{k:Int}{tv:TE}{i:Nat}(h:H p=some (.ins c.Walk dx (cF v0 (.int k) v2 v3 v4)))(h0:σ[i]?=some (some (.ref p)))(q:tv σ H λy H2=>∃j,y=.int j∧H2 p=some (.ins c.Walk dx (cF v0 (.int k) v2 v3 v4))∧D.nx σ (upd H2 p (.ins c.Walk dx (cF v0 (.int (k+j)) v2 v3 v4))))(mono:∀(R S:VK),(∀v H,R v H→S v H)→tv σ H R→tv σ H S):rG K (b9 i) tv DY "place" D σ H:=by
 refine⟨_,h0,p,_,dx,_,_,rfl,h,T.gm.cl,T.je,rfl,mono _ _ ?_ q⟩;rintro v H2 ⟨j,rfl,h2,q2⟩;exact⟨k,j,rfl,rfl,dx,_,h2,(by show 5<1000;decide),q2⟩
theorem Txt.qd(T:Txt K mg c):au K c.Walk "scopes":=T.tK _ (by simp)
theorem cQ(T:Txt K mg c){R:V→Prop}{v0 v1 v2 v3 v4:V}(h:H p=some (.ins c.Walk dx (cF v0 v1 v2 v3 v4)))(q:R v2):∃a C dx fs v,V.ref p=.ref a∧H a=some (.ins C dx fs)∧Cls K C∧au K C "scopes"∧fs.lookup ("scopes":Str)=some v∧R v:=⟨p,_,dx,_,_,rfl,h,T.gm.cl,T.qd,rfl,q⟩
theorem Txt.qf(T:Txt K mg c):au K c.Walk "coming":=T.tK _ (by simp)
theorem fW(T:Txt K mg c){R:V→Prop}{v0 v1 v2 v3 v4:V}(h:H p=some (.ins c.Walk dx (cF v0 v1 v2 v3 v4)))(q:R v3):∃a C dx fs v,V.ref p=.ref a∧H a=some (.ins C dx fs)∧Cls K C∧au K C "coming"∧fs.lookup ("coming":Str)=some v∧R v:=⟨p,_,dx,_,_,rfl,h,T.gm.cl,T.qf,rfl,q⟩
theorem Txt.uj(T:Txt K mg c):au K c.Walk "rows":=T.tK _ (by simp)
theorem lY(T:Txt K mg c){R:V→Prop}{v0 v1 v2 v3 v4:V}(h:H p=some (.ins c.Walk dx (cF v0 v1 v2 v3 v4)))(q:R v4):∃a C dx fs v,V.ref p=.ref a∧H a=some (.ins C dx fs)∧Cls K C∧au K C "rows"∧fs.lookup ("rows":Str)=some v∧R v:=⟨p,_,dx,_,_,rfl,h,T.gm.cl,T.uj,rfl,q⟩
def gr(v0 v1:V):List (Str×V):=[(("pieces":Str),v0),(("store":Str),v1)]
theorem bP{m:Str}{R:Prop}{v0 v1:V}(h:H p=some (.ins c.Engine dx (gr v0 v1)))(q:R)(hm:(gr v0 v1).lookup m=none:=by rfl):∃a dx fs,V.ref p=.ref a∧H a=some (.ins c.Engine dx fs)∧fs.lookup m=none∧R:=⟨p,dx,_,rfl,h,hm,q⟩
theorem Txt.iU(T:Txt K mg c):au K c.Engine "pieces":=T.vU _ (by simp)
theorem d8(T:Txt K mg c){R:V→Prop}{v0 v1:V}(h:H p=some (.ins c.Engine dx (gr v0 v1)))(q:R v0):∃a C dx fs v,V.ref p=.ref a∧H a=some (.ins C dx fs)∧Cls K C∧au K C "pieces"∧fs.lookup ("pieces":Str)=some v∧R v:=⟨p,_,dx,_,_,rfl,h,T.iL.cl,T.iU,rfl,q⟩
theorem sP(T:Txt K mg c){v0 v1 y:V}(h:H p=some (.ins c.Engine dx (gr v0 v1)))(q:D.nx σ (upd H p (.ins c.Engine dx (gr y v1)))):∃a C dx fs,V.ref p=.ref a∧H a=some (.ins C dx fs)∧Cls K C∧au K C "pieces"∧fs.length<1000∧D.nx σ (upd H a (.ins C dx (e9 "pieces" y fs))):=⟨p,_,dx,_,rfl,h,T.iL.cl,T.iU,(by show 2<1000;decide),q⟩
theorem Txt.jC(T:Txt K mg c):au K c.Engine "store":=T.vU _ (by simp)
theorem c9(T:Txt K mg c){R:V→Prop}{v0 v1:V}(h:H p=some (.ins c.Engine dx (gr v0 v1)))(q:R v1):∃a C dx fs v,V.ref p=.ref a∧H a=some (.ins C dx fs)∧Cls K C∧au K C "store"∧fs.lookup ("store":Str)=some v∧R v:=⟨p,_,dx,_,_,rfl,h,T.iL.cl,T.jC,rfl,q⟩
theorem uH(T:Txt K mg c){v0 v1 y:V}(h:H p=some (.ins c.Engine dx (gr v0 v1)))(q:D.nx σ (upd H p (.ins c.Engine dx (gr v0 y)))):∃a C dx fs,V.ref p=.ref a∧H a=some (.ins C dx fs)∧Cls K C∧au K C "store"∧fs.length<1000∧D.nx σ (upd H a (.ins C dx (e9 "store" y fs))):=⟨p,_,dx,_,rfl,h,T.iL.cl,T.jC,(by show 2<1000;decide),q⟩
def bu(v0 v1:V):List (Str×V):=[(("calls":Str),v0),(("place":Str),v1)]
theorem bb{m:Str}{R:Prop}{v0 v1:V}(h:H p=some (.ins c.CallReader dx (bu v0 v1)))(q:R)(hm:(bu v0 v1).lookup m=none:=by rfl):∃a dx fs,V.ref p=.ref a∧H a=some (.ins c.CallReader dx fs)∧fs.lookup m=none∧R:=⟨p,dx,_,rfl,h,hm,q⟩
theorem Txt.jD(T:Txt K mg c):au K c.CallReader "calls":=T.mz _ (by simp)
theorem eB(T:Txt K mg c){R:V→Prop}{v0 v1:V}(h:H p=some (.ins c.CallReader dx (bu v0 v1)))(q:R v0):∃a C dx fs v,V.ref p=.ref a∧H a=some (.ins C dx fs)∧Cls K C∧au K C "calls"∧fs.lookup ("calls":Str)=some v∧R v:=⟨p,_,dx,_,_,rfl,h,T.c0.cl,T.jD,rfl,q⟩
theorem Txt.fe(T:Txt K mg c):au K c.CallReader "place":=T.mz _ (by simp)
theorem cK(T:Txt K mg c){R:V→Prop}{v0 v1:V}(h:H p=some (.ins c.CallReader dx (bu v0 v1)))(q:R v1):∃a C dx fs v,V.ref p=.ref a∧H a=some (.ins C dx fs)∧Cls K C∧au K C "place"∧fs.lookup ("place":Str)=some v∧R v:=⟨p,_,dx,_,_,rfl,h,T.c0.cl,T.fe,rfl,q⟩
theorem i6(T:Txt K mg c){v0:V}{k:Int}{tv:TE}{i:Nat}(h:H p=some (.ins c.CallReader dx (bu v0 (.int k))))(h0:σ[i]?=some (some (.ref p)))(q:tv σ H λy H2=>∃j,y=.int j∧H2 p=some (.ins c.CallReader dx (bu v0 (.int k)))∧D.nx σ (upd H2 p (.ins c.CallReader dx (bu v0 (.int (k+j))))))(mono:∀(R S:VK),(∀v H,R v H→S v H)→tv σ H R→tv σ H S):rG K (b9 i) tv DY "place" D σ H:=by
 refine⟨_,h0,p,_,dx,_,_,rfl,h,T.c0.cl,T.fe,rfl,mono _ _ ?_ q⟩;rintro v H2 ⟨j,rfl,h2,q2⟩;exact⟨k,j,rfl,rfl,dx,_,h2,(by show 2<1000;decide),q2⟩
end
structure Tok where
 aZ:Int
 kind:Int
 beg:Nat
 fin:Nat
structure SS where
 place:Nat
 kind:Int
 aV:List Int
 toks:List Tok
structure SA where
 (p ra sa ta:Addr)
def Ki(t:Tok):List (Str×V):=bO (.int t.aZ) (.int t.kind) (.int t.beg) (.int t.fin)
def xZ(c:Cs)(H:Hp)(a:Addr)(t:Tok):Prop:=∃dx,H a=some (.ins c.Token dx (Ki t))
structure a6(c:Cs)(H:Hp)(x:SA)(r:List Int)(tm:Bool)(st:SS):Prop where
 self:∃dx,H x.p=some (.ins c.Scanner dx (bG (.ref x.ra) (.bl tm) (.int st.place) (.int st.kind) (.ref x.sa) (.ref x.ta)))
 row:H x.ra=some (.lst (r.map V.int))
 aV:H x.sa=some (.lst (st.aV.map V.int))
 toks:∃as:List Addr,H x.ta=some (.lst (as.map V.ref))∧F2 (λa t=>xZ c H a t) as st.toks
 nrs:x.ra≠x.sa
 nrt:x.ra≠x.ta
 nst:x.sa≠x.ta
def SA.F(x:SA):Addr→Prop:=λb=>b=x.p∨b=x.sa∨b=x.ta
theorem a6.same{H H':Hp}{x:SA}{r:List Int}{tm:Bool}{st:SS}(S:a6 c H x r tm st)(s:aE H H'):a6 c H' x r tm st:=by
 obtain⟨⟨dx,h1⟩,h2,h3,⟨as,h4,h5⟩,n1,n2,n3⟩:=S;exact⟨⟨dx,s _ _ h1⟩,s _ _ h2,s _ _ h3,⟨as,s _ _ h4,h5.imp λa t⟨d,h⟩=>⟨d,s _ _ h⟩⟩,n1,n2,n3⟩
section
variable {H:Hp}{x:SA}{r:List Int}{tm:Bool}{st:SS}{dx:Addr}
theorem a6.put(S:a6 c H x r tm st)(k:Nat)(kd:Int):a6 c (upd H x.p (.ins c.Scanner dx (bG (.ref x.ra) (.bl tm) (.int k) (.int kd) (.ref x.sa) (.ref x.ta)))) x r tm {st with place:=k,kind:=kd}:=by
 obtain⟨⟨dx0,h1⟩,h2,h3,⟨as,h4,h5⟩,n1,n2,n3⟩:=S;have na:∀{b:Addr}{xs:List V},H b=some (.lst xs)→b≠x.p:=λh=>aF h h1 (by intro z;cases z)
 refine⟨⟨dx,af⟩,by rw[ae (na h2)];exact h2,by rw[ae (na h3)];exact h3,⟨as,by rw[ae (na h4)];exact h4,h5.imp λa t⟨d,h⟩=>⟨d,?_⟩⟩,n1,n2,n3⟩
 rw[ae (aF h h1 (Ne.symm (dW "what" (v:=.int t.aZ) rfl rfl)))];exact h
theorem a6.BP(S:a6 c H x r tm st)(l:List Int):a6 c (upd H x.sa (.lst (l.map V.int))) x r tm {st with aV:=l}:=by
 obtain⟨⟨dx0,h1⟩,h2,h3,⟨as,h4,h5⟩,n1,n2,n3⟩:=S;have na:∀{b C d:Addr}{fs:List (Str×V)},H b=some (.ins C d fs)→b≠x.sa:=λh=>aF h h3 (by intro z;cases z)
 exact⟨⟨dx0,by rw[ae (na h1)];exact h1⟩,by rw[ae n1];exact h2,af,⟨as,by rw[ae n3.symm];exact h4,h5.imp λa t⟨d,h⟩=>⟨d,by rw[ae (na h)];exact h⟩⟩,n1,n2,n3⟩
theorem a6.Il(S:a6 c H x r tm st){as:List Addr}{a:Addr}{t:Tok}(h4:H x.ta=some (.lst (as.map V.ref)))(h5:F2 (λa t=>xZ c H a t) as st.toks)(ht:xZ c H a t):
  a6 c (upd H x.ta (.lst (as.map V.ref++[.ref a]))) x r tm {st with toks:=st.toks++[t]}:=by
 obtain⟨⟨dx0,h1⟩,h2,h3,_,n1,n2,n3⟩:=S;have na:∀{b C d:Addr}{fs:List (Str×V)},H b=some (.ins C d fs)→b≠x.ta:=λh=>aF h h4 (by intro z;cases z)
 refine⟨⟨dx0,by rw[ae (na h1)];exact h1⟩,by rw[ae n2];exact h2,by rw[ae n3];exact h3,⟨as++[a],by rw[af,List.map_append];rfl,?_⟩,n1,n2,n3⟩
 exact(h5.app (.cons ht .nil)).imp λa t⟨d,h⟩=>⟨d,by rw[ae (na h)];exact h⟩
end
def Aft(c:Cs)(x:SA)(r:List Int)(tm:Bool)(H:Hp)(res:Except Nat SS)(N:SS→Hp→Prop)(E:XK):Prop:=match res with
 |.ok st=>∀H',a6 c H' x r tm st→Fr x.F H H'→N st H'
 |.error k=>∀H' dx,H' dx=some (.xd [(("place":Str),.int (k:Nat))])→Fr x.F H H'→E (.ref c.Fault) (some dx) H'
section
variable {H H':Hp}{x:SA}{r:List Int}{tm:Bool}{st:SS}{dx:Addr}{N:SS→Hp→Prop}{E:XK}{res:Except Nat SS}{M:Hp→Prop}{g:SS→Except Nat SS}
theorem Aft.from(k:Aft c x r tm H res N E)(f:Fr x.F H H'):Aft c x r tm H' res N E:=by
 cases res with
 |ok st=>exactλH2 S f2=>k H2 S (f.trans f2)
 |error n=>exactλH2 dx h f2=>k H2 dx h (f.trans f2)
theorem Aft.bind(k:Aft c x r tm H (res.bind g) N E)(h:∀s1 H1,res=.ok s1→a6 c H1 x r tm s1→Aft c x r tm H1 (g s1) N E→M H1):Aft c x r tm H res (λ_ H1=>M H1) E:=by
 cases res with
 |ok st=>exactλH2 S f2=>h st H2 rfl S (Aft.from k f2)
 |error n=>exact k
end
def spM(c:Cs)(f:List Int→Bool→SS→Except Nat SS)(pre:List Int→Bool→SS→Prop):Sp:=λvs H Q E=>∃x r tm st,vs=[.ref x.p]∧a6 c H x r tm st∧pre r tm st∧Aft c x r tm H (f r tm st) (λ_ H'=>Q .non H') E
def KL(c:Cs)(f:Int→List Int→Bool→SS→Except Nat SS)(pre:Int→List Int→Bool→SS→Prop):Sp:=λvs H Q E=>∃i x r tm st,vs=[.ref x.p,.int i]∧a6 c H x r tm st∧pre i r tm st∧Aft c x r tm H (f i r tm st) (λ_ H'=>Q .non H') E
section
variable {H:Hp}{x:SA}{r:List Int}{tm:Bool}{st:SS}{Q:VK}{σ:L2.St}{D:Ends}{i:Nat}
theorem lW(T:Txt K mg c)(S:a6 c H x r tm st)(h0:σ[i]?=some (some (.ref x.p)))(q:Q (.int st.place) H):jk K (b9 i) "place" σ H Q:=by
 obtain⟨dx,h⟩:=S.self;exact⟨_,h0,tw T h q⟩
theorem HR(T:Txt K mg c)(S:a6 c H x r tm st)(h0:σ[i]?=some (some (.ref x.p)))(q:Q (.int st.kind) H):jk K (b9 i) "kind" σ H Q:=by
 obtain⟨dx,h⟩:=S.self;exact⟨_,h0,uN T h q⟩
theorem KR(T:Txt K mg c)(S:a6 c H x r tm st)(h0:σ[i]?=some (some (.ref x.p)))(q:Q (.bl tm) H):jk K (b9 i) "is_template" σ H Q:=by
 obtain⟨dx,h⟩:=S.self;exact⟨_,h0,l0 T h q⟩
theorem s_row(T:Txt K mg c)(S:a6 c H x r tm st)(h0:σ[i]?=some (some (.ref x.p)))(q:Q (.ref x.ra) H):jk K (b9 i) "row" σ H Q:=by
 obtain⟨dx,h⟩:=S.self;exact⟨_,h0,vA T h q⟩
theorem HQ(T:Txt K mg c)(S:a6 c H x r tm st)(h0:σ[i]?=some (some (.ref x.p)))(q:Q (.ref x.sa) H):jk K (b9 i) "sections" σ H Q:=by
 obtain⟨dx,h⟩:=S.self;exact⟨_,h0,pH T h q⟩
theorem HP(T:Txt K mg c)(S:a6 c H x r tm st)(h0:σ[i]?=some (some (.ref x.p)))(q:Q (.ref x.ta) H):jk K (b9 i) "tokens" σ H Q:=by
 obtain⟨dx,h⟩:=S.self;exact⟨_,h0,rH T h q⟩
theorem mK(T:Txt K mg c)(S:a6 c H x r tm st)(h0:σ[i]?=some (some (.ref x.p)))(k:∀H',a6 c H' x r tm {st with place:=st.place+1}→Fr x.F H H'→D.nx σ H'):rG K (b9 i) (tC (.int 1)) DY "place" D σ H:=by
 obtain⟨dx,h⟩:=S.self;refine tY T h h0 ⟨1,rfl,h,?_⟩ (λR S h q=>h _ _ q);exact k _ (S.put (dx:=dx) (st.place+1) st.kind) (ff (.inl rfl))
theorem uV(T:Txt K mg c)(S:a6 c H x r tm st){kd:Int}(k:∀H',a6 c H' x r tm {st with kind:=kd}→Fr x.F H H'→D.nx σ H'):
  ∃a C dx fs,V.ref x.p=.ref a∧H a=some (.ins C dx fs)∧Cls K C∧au K C "kind"∧fs.length<1000∧D.nx σ (upd H a (.ins C dx (e9 "kind" (.int kd) fs))):=by
 obtain⟨dx,h⟩:=S.self;exact uG T h (k _ (S.put (dx:=dx) st.place kd) (ff (.inl rfl)))
theorem s_call{m:Str}{sp:Sp}{E:XK}{t:TA}(S:a6 c H x r tm st)(h0:σ[i]?=some (some (.ref x.p)))(h:t σ H λvs H2=>sp (.ref x.p::(vs++[])) H2 Q E)
  (hm:∀v0 v1 v2 v3 v4 v5,(bG v0 v1 v2 v3 v4 v5).lookup m=none:=by intros;rfl):rk c.Scanner m sp [] E (b9 i) t σ H Q:=by
 obtain⟨dx,hx⟩:=S.self;exact⟨_,h0,rb hx h (hm _ _ _ _ _ _)⟩
end
def BF(c:Cs):Sp:=λvs H Q _=>∃a tt v,vs=[.ref a,v]∧H a=some (XO c.Fault tt a none)∧∀dx,H dx=none→Q .non (upd (upd H dx (.xd [(("place":Str),v)])) a (XO c.Fault tt a (some dx)))
theorem hZ(T:Txt K mg c):Jk P w K mg base c.Fault "Fault" ["self","place"] 1 (BF c):=by
 refine T.fM.has (k:=0) wO (λvs H Q E h=>?_) (λfa cdv A outer sh0 H vs Q E hr h=>?_)
 ·obtain⟨a,tt,v,rfl,_⟩:=h;rfl
 ·obtain⟨a,tt,v,rfl,ha,k⟩:=h;refine⟨_,(ah (FK T.fM.xc (pv 0) (pv 1) rfl)),?_⟩
  try dsimp only[aM]
  exact⟨_,rfl,_,rfl,a,tt,rfl,ha,T.rP,k⟩
theorem o6{E:XK}{te:TE}{D:Ends}{σ:L2.St}{H:Hp}{v:V}(k:∀H' dx,H' dx=some (.xd [(("place":Str),v)])→aE H H'→E (.ref c.Fault) (some dx) H')
  (hv:∀Q:VK,Q v H→te σ H Q):Az c.Fault (BF c) E (dF te ij) D σ H:=by
 refine hv _ ⟨by show 1≤sizeLine;decide,λa tt ha=>⟨a,tt,v,rfl,af,λdx hd=>⟨rfl,dx,af,k _ dx ?_ ?_⟩⟩⟩
 ·have n:dx≠a:=λz=>by rw[z,af]at hd;cases hd
  rw[tU n,ae n,af]
 ·intro b o e;have n1:b≠a:=aw e ha;have n2:b≠dx:=λz=>by rw[←z,ae n1,e]at hd;cases hd
  rw[tU n1,ae n1,ae n2,ae n1];exact e
def Fi(c:Cs):Sp:=λvs H Q _=>∃(a dx:Addr)(H0:Hp)(v0 v1 v2 v3:V),vs=[.ref a,v0,v1,v2,v3]∧H=upd H0 a (.ins c.Token dx [])∧Q .non (upd H0 a (.ins c.Token dx (bO v0 v1 v2 v3)))
theorem wQ(T:Txt K mg c):sM P w K mg base c.Token "Token" ["self","what","kind","begin","end"] 1 (Fi c):=by
 refine T.ic.has (k:=0) wJ (λvs H Q E h=>?_) (λfa cdv A outer sh0 H vs Q E hr h=>?_)
 ·obtain⟨a,dx,H0,v0,v1,v2,v3,rfl,_⟩:=h;rfl
 ·obtain⟨a,dx,H0,v0,v1,v2,v3,rfl,rfl,k⟩:=h;refine⟨_,(ag (aT (pv 0) (pv 1) rfl) (ag (aT (pv 0) (pv 2) rfl) (ag (aT (pv 0) (pv 3) rfl) (ah (aT (pv 0) (pv 4) rfl))))),?_⟩
  try dsimp only[aM]
  walk_at"rd";refine wi T.ic.cl T.rW (by show 0<1000;decide) ?_
  walk_at"rd";refine wi T.ic.cl T.rX (by show 1<1000;decide) ?_
  walk_at"rd";refine wi T.ic.cl T.qg (by show 2<1000;decide) ?_
  walk_at"rd";refine wi T.ic.cl T.uk (by show 3<1000;decide) ?_
  exact k
def CD(c:Cs):Sp:=λvs H Q _=>∃(a dx ra:Addr)(H0:Hp)(tm:Bool)(r:List Int),vs=[.ref a,.ref ra,.bl tm]∧H=upd H0 a (.ins c.Scanner dx [])∧H0 a=none∧H0 ra=some (.lst (r.map V.int))∧
 ∀H' sa ta,aE H0 H'→H0 sa=none→H0 ta=none→a6 c H' ⟨a,ra,sa,ta⟩ r tm ⟨0,1,[],[]⟩→Q .non H'
theorem mP(T:Txt K mg c):sM P w K mg base c.Scanner "Scanner" ["self","row","is_template"] 1 (CD c):=by
 refine T.bF.has (k:=0) uM (λvs H Q E h=>?_) (λfa cdv A outer sh0 H vs Q E hr h=>?_)
 ·obtain⟨a,dx,ra,H0,tm,r,rfl,_⟩:=h;rfl
 ·obtain⟨a,dx,ra,H0,tm,r,rfl,rfl,ha,hra,k⟩:=h;refine⟨_,(ag (aT (pv 0) (pv 1) rfl) (ag (aT (pv 0) (pv 2) rfl) (ag (aT (pv 0) aA rfl) (ag (aT (pv 0) (pg T.rf) rfl) (ag (aT (pv 0) (aU ai) rfl) (ah (aT (pv 0) (aU ai) rfl))))))),?_⟩
  try dsimp only[aM]
  walk_at"rd";refine wi T.bF.cl T.ql (by show 0<1000;decide) ?_
  walk_at"rd";refine wi T.bF.cl T.gL (by show 1<1000;decide) ?_
  walk_at"rd";refine wi T.bF.cl T.iS (by show 2<1000;decide) ?_
  walk_at"rd";refine wi T.bF.cl T.jB (by show 3<1000;decide) ?_
  walk_at"rd";refine⟨Nat.zero_le _,λsa hsa=>?_⟩;have n1:sa≠a:=λz=>by rw[z,af]at hsa;cases hsa
  rw[ae n1]at hsa;walk_at"rd";refine⟨a,_,dx,_,rfl,by rw[ae n1.symm];exact af,T.bF.cl,T.jA,by show 4<1000;decide,?_⟩
  walk_at"rd";refine⟨Nat.zero_le _,λta hta=>?_⟩;have n2:ta≠a:=λz=>by rw[z,af]at hta;cases hta
  rw[ae n2]at hta;have n3:ta≠sa:=λz=>by rw[z,af]at hta;cases hta
  rw[ae n3,ae n2]at hta;walk_at"rd";refine⟨a,_,dx,_,rfl,by rw[ae n2.symm];exact af,T.bF.cl,T.lx,by show 5<1000;decide,?_⟩
  have g:∀b o,H0 b=some o→b≠a∧b≠sa∧b≠ta:=λb o e=>⟨aw e ha,aw e hsa,aw e hta⟩;refine k _ sa ta (λb o e=>?_) hsa hta ⟨⟨dx,af⟩,?_,?_,⟨[],?_,.nil⟩,(g _ _ hra).2.1,(g _ _ hra).2.2,n3.symm⟩
  ·obtain⟨g1,g2,g3⟩:=g b o e;rw[ae g1,ae g3,ae g1,ae g2,ae g1];exact e
  ·obtain⟨g1,g2,g3⟩:=g _ _ hra;show upd _ _ _ ra=_;rw[ae g1,ae g3,ae g1,ae g2,ae g1];exact hra
  ·show upd _ _ _ sa=_;rw[ae n1,ae n3.symm,ae n1,af];rfl
  ·show upd _ _ _ ta=_;rw[ae n2,af];rfl
section
local macro_rules|`(tactic|walk_at"sd1")=>`(tactic|first
 |((with_reducible refine' lW ?sT ?sa ?sb ?_);(case sb=>exact rfl);(case sa=>assumption);(try (case sT=>assumption)))
 |((with_reducible refine' HR ?sT ?sa ?sb ?_);(case sb=>exact rfl);(case sa=>assumption);(try (case sT=>assumption)))
 |((with_reducible refine' KR ?sT ?sa ?sb ?_);(case sb=>exact rfl);(case sa=>assumption);(try (case sT=>assumption)))
 |((with_reducible refine' s_row ?sT ?sa ?sb ?_);(case sb=>exact rfl);(case sa=>assumption);(try (case sT=>assumption)))
 |((with_reducible refine' HQ ?sT ?sa ?sb ?_);(case sb=>exact rfl);(case sa=>assumption);(try (case sT=>assumption)))
 |((with_reducible refine' HP ?sT ?sa ?sb ?_);(case sb=>exact rfl);(case sa=>assumption);(try (case sT=>assumption)))
 |((with_reducible refine' s_call ?sa ?sb ?_ ?sm);(case sb=>exact rfl);(case sa=>assumption);(case sm=>(intros;rfl)))
 |walk_at"rd1")
local macro_rules|`(tactic|walk_at"sd")=>`(tactic|repeat' (walk_at"sd1"))
def pk(r:List Int)(k:Nat):Int:=r.getD k 256
theorem oa{P:Int→Bool}{r:List Int}{k:Nat}(h:P (pk r k)=true)(h0:P 256=false):k<r.length:=by
 rcases Nat.lt_or_ge k r.length with h1|h1
 ·exact h1
 ·unfold pk at h;rw[List.getD_eq_getElem?_getD,List.getElem?_eq_none h1]at h;rw[show(Option.none (α:=Int)).getD 256=256 from rfl,h0]at h;cases h
def tk(a:Bool)(st:SS):Except Nat SS:=if a=true then .ok {st with place:=st.place+1}else .error st.place
def nt(aZ:Int)(b:Nat)(st:SS):SS:={st with toks:=st.toks++[⟨aZ,st.kind,b,st.place⟩]}
def run(P:Int→Bool)(r:List Int)(k:Nat):Nat:=k+((r.drop k).takeWhile P).length
def runN(P:Int→Bool)(r:List Int)(k n:Nat):Nat:=k+(((r.drop k).take n).takeWhile P).length
def qm(aZ:Int)(r:List Int)(st:SS):Except Nat SS:=(tk (cN (pk r st.place)) st).bind λs1=>.ok (nt aZ st.place {s1 with place:=run fMk r s1.place})
def jH(r:List Int)(st:SS):Except Nat SS:=(tk (qZ (pk r st.place)||decide (pk r st.place=62)) st).bind λs1=>.ok {s1 with kind:=if pk r st.place=62 then 1 else 4}
def zN(r:List Int)(st:SS):Except Nat SS:=if pk r (st.place+1)=47 then(qm 5 r {st with place:=st.place+2}).bind λs1=>tk (decide (pk r s1.place=62)) s1
 else(qm 2 r {st with place:=st.place+1}).bind (jH r)
def xB(r:List Int)(st:SS):Except Nat SS:=(qm 3 r st).bind λs1=>(tk (decide (pk r s1.place=61)) s1).bind λs2=>(tk ([34,39].contains (pk r s2.place)) s2).bind λs3=>
 .ok (nt 4 s3.place {s3 with kind:=Aa (pk r s2.place)})
def tN(st:SS):SS:=nt 6 st.place {st with place:=st.place+1}
def mNB(r:List Int)(st:SS):Except Nat SS:=(tk (cN (pk r st.place)) st).bind λs1=>tk (decide (pk r (runN fNm r s1.place 31)=125)) {s1 with place:=runN fNm r s1.place 31}
def zP(b:Nat)(r:List Int)(st:SS):Except Nat SS:=(mNB r {st with place:=st.place+1}).bind λs1=>.ok (nt 10 b {s1 with aV:=s1.aV++[s1.kind]})
def zO(b:Nat)(r:List Int)(st:SS):Except Nat SS:=(tk (decide (pk r (st.place+1)=125)) {st with place:=st.place+1}).bind λs1=>.ok (nt 11 b {s1 with aV:=s1.aV.dropLast})
def yF(st:SS):Bool:=!decide (st.aV=[])&&decide (st.aV.getLast?=some st.kind)
def kj(r:List Int)(st:SS):Except Nat SS:=(tk (decide (st.aV.length<16)||(yF st||!jM st.kind)) st).bind λs1=>
 if(decide (pk r s1.place=47)&&yF st)=true then zO st.place r s1 else if([42,63,33].contains (pk r s1.place)&&decide (st.aV.length<16))=true then zP st.place r s1
 else if jM st.kind=true then .error s1.place else if pk r s1.place=123 then .ok (nt 8 st.place {s1 with place:=s1.place+1})else(mNB r s1).bind λs2=>.ok (nt 9 st.place s2)
def GH(e:Str):Str:=Gy e (some 1) none
def fL(b:Int)(es:List Str):List Str:=(es.filter λe=>decide (nh e=b)).map GH
def jx(r:List Int):Nat→List Str→Nat→Except Nat Nat
 |0,_,k=>.error k
 |f+1,es,k=>if es=[("":Str)]then .ok k else if fL (pk r k) es=[]then .error k else jx r f (fL (pk r k) es) (k+1)
def zR(r:List Int)(st:SS):Except Nat SS:=(jx r 30 (dc.map (·.1)) (st.place+1)).bind λk=>.ok (nt 7 st.place {st with place:=k})
def vW(r:List Int)(st:SS):Except Nat SS:=if pk r st.place=60 then zN r st else if pk r st.place=38 then zR r st else .ok (tN st)
def AX(r:List Int)(st:SS):Except Nat SS:=if pk r st.place=xQ st.kind then .ok {st with place:=st.place+1,kind:=5}else if pk r st.place=38 then zR r st else if pk r st.place=60 then .error st.place else .ok (tN st)
def qW(r:List Int)(st:SS):Except Nat SS:=if(decide (st.kind=4)&&cN (pk r st.place))=true then xB r st else jH r st
def iV(r:List Int)(tm:Bool)(st:SS):Except Nat SS:=if(tm&&decide (pk r st.place=123))=true then kj r st else if st.kind=1 then vW r st else if yP st.kind=true then AX r st else qW r st
def cp(r:List Int)(tm:Bool):Nat→SS→Except Nat (List Tok)
 |0,st=>.error st.place
 |f+1,st=>if st.place<r.length then(iV r tm st).bind (cp r tm f)else if st.kind≠1∨st.aV≠[]then .error st.place else .ok st.toks
def eG(r:List Int)(tm:Bool):Except Nat (List Tok):=cp r tm (r.length+1) ⟨0,1,[],[]⟩
structure Ok(r:List Int)(st:SS):Prop where
 le:st.place≤r.length
 few:st.toks.length≤st.place
 sec:st.aV.length≤16
 row:r.length≤5000
section
variable {r:List Int}{st s1:SS}
theorem GG{a:Bool}(h:tk a st=.ok s1):a=true∧s1={st with place:=st.place+1}:=by
 unfold tk at h;cases a with
 |true=>exact⟨rfl,by injection h with h;exact h.symm⟩
 |false=>cases h
theorem dA{α β:Type}{x:Except Nat α}{g:α→Except Nat β}{b:β}(h:x.bind g=.ok b):∃a,x=.ok a∧g a=.ok b:=by
 cases x with
 |ok a=>exact⟨a,rfl,h⟩
 |error e=>cases h
theorem HU(P:Int→Bool)(r:List Int)(k:Nat)(h:k≤r.length):k≤run P r k∧run P r k≤r.length:=by
 unfold run;have:((r.drop k).takeWhile P).length≤(r.drop k).length:=(List.takeWhile_prefix P).length_le;rw[List.length_drop]at this;omega
theorem Fy(P:Int→Bool)(r:List Int)(k n:Nat)(h:k≤r.length):k≤runN P r k n∧runN P r k n≤r.length∧runN P r k n≤k+n:=by
 unfold runN;have:(((r.drop k).take n).takeWhile P).length≤((r.drop k).take n).length:=(List.takeWhile_prefix P).length_le;rw[List.length_take,List.length_drop]at this;omega
theorem dm{a:Bool}(O:Ok r st)(ha:a=true→st.place<r.length)(h:tk a st=.ok s1):Ok r s1∧s1.place=st.place+1∧s1.kind=st.kind∧s1.aV=st.aV∧s1.toks=st.toks:=by
 obtain⟨h1,rfl⟩:=GG h;have:=ha h1;exact⟨⟨by show st.place+1≤_;omega,Nat.le_trans O.few (Nat.le_succ _),O.sec,O.row⟩,rfl,rfl,rfl,rfl⟩
theorem j8{w:Int}{b:Nat}(O:Ok r st)(h:st.toks.length<st.place):Ok r (nt w b st):=by
 refine⟨O.le,?_,O.sec,O.row⟩;show(st.toks++[_]).length≤st.place;rw[List.length_append];exact h
structure On(r:List Int)(st s1:SS):Prop where
 ok:Ok r s1
 lt:st.place<s1.place
theorem r8{w:Int}(O:Ok r st)(h:qm w r st=.ok s1):On r st s1∧s1.kind=st.kind∧s1.aV=st.aV:=by
 obtain⟨a,h1,h2⟩:=dA h;injection h2 with h2;subst h2
 obtain⟨O1,e1,e2,e3,e4⟩:=dm O (λh=>oa h rfl) h1;have hr:=HU fMk r a.place O1.le;have hf:=O.few;refine⟨⟨j8 ⟨hr.2,?_,O1.sec,O1.row⟩ ?_,?_⟩,e2,e3⟩
 ·show a.toks.length≤run fMk r a.place;rw[e4];omega
 ·show a.toks.length<run fMk r a.place;rw[e4];omega
 ·show st.place<run fMk r a.place;omega
theorem EY{k:Nat}(h:(qZ (pk r k)||decide (pk r k=62))=true):k<r.length:=oa (P:=λy=>qZ y||decide (y=62)) h rfl
theorem mX{k:Nat}{z:Int}(hz:z≠256)(h:decide (pk r k=z)=true):k<r.length:=oa (P:=λy=>decide (y=z)) h (decide_eq_false λe=>hz e.symm)
theorem xA(O:Ok r st)(h:jH r st=.ok s1):On r st s1∧s1.aV=st.aV:=by
 obtain⟨a,h1,h2⟩:=dA h;injection h2 with h2;subst h2
 obtain⟨O1,e1,e2,e3,e4⟩:=dm O EY h1;exact⟨⟨⟨O1.le,O1.few,O1.sec,O1.row⟩,by show st.place<a.place;omega⟩,e3⟩
theorem Gf(O:Ok r st)(hl:st.place<r.length)(h:zN r st=.ok s1):On r st s1∧s1.aV=st.aV:=by
 unfold zN at h;have hf:=O.few
 split at h
 ·rename_i hs;have h2:=mX (k:=st.place+1) (z:=47) (by decide) (decide_eq_true hs)
  obtain⟨a,h3,h4⟩:=dA h;obtain⟨⟨O1,l1⟩,_,e1⟩:=r8 (st:={st with place:=st.place+2}) ⟨by show st.place+2≤_;omega,by show st.toks.length≤st.place+2;omega,O.sec,O.row⟩ h3
  obtain⟨O2,q1,q2,q3,q4⟩:=dm O1 (mX (by decide)) h4
  have l1':st.place+2<a.place:=l1;exact⟨⟨O2,by omega⟩,q3.trans e1⟩
 ·obtain⟨a,h3,h4⟩:=dA h;obtain⟨⟨O1,l1⟩,_,e1⟩:=r8 (st:={st with place:=st.place+1}) ⟨by show st.place+1≤_;omega,by show st.toks.length≤st.place+1;omega,O.sec,O.row⟩ h3
  obtain⟨⟨O2,l2⟩,e2⟩:=xA O1 h4;have l1':st.place+1<a.place:=l1;exact⟨⟨O2,by omega⟩,e2.trans e1⟩
theorem zw{k:Nat}(h:[34,39].contains (pk r k)=true):k<r.length:=oa (P:=λy=>[34,39].contains y) h rfl
theorem Ex(O:Ok r st)(h:xB r st=.ok s1):On r st s1∧s1.aV=st.aV:=by
 obtain⟨a,h1,h⟩:=dA h;obtain⟨b,h2,h⟩:=dA h;obtain⟨d,h3,h⟩:=dA h;injection h with h;subst h
 obtain⟨⟨O1,l1⟩,_,e1⟩:=r8 O h1;obtain⟨O2,q1,q2,q3,q4⟩:=dm O1 (mX (by decide)) h2
 obtain⟨O3,w1,w2,w3,w4⟩:=dm O2 zw h3;have hf:=O1.few;refine⟨⟨j8 ⟨O3.le,O3.few,O3.sec,O3.row⟩ ?_,by show st.place<d.place;omega⟩,w3.trans (q3.trans e1)⟩
 show d.toks.length<d.place;rw[w4,q4];omega
theorem xw(O:Ok r st)(hl:st.place<r.length):On r st (tN st)∧(tN st).aV=st.aV:=by
 have hf:=O.few;exact⟨⟨j8 ⟨by show st.place+1≤_;omega,by show st.toks.length≤st.place+1;omega,O.sec,O.row⟩ (by show st.toks.length<st.place+1;omega),Nat.lt_succ_self _⟩,rfl⟩
theorem vX(O:Ok r st)(h:mNB r st=.ok s1):On r st s1∧s1.kind=st.kind∧s1.aV=st.aV∧s1.toks=st.toks:=by
 obtain⟨a,h1,h⟩:=dA h;obtain⟨O1,e1,e2,e3,e4⟩:=dm O (λh=>oa h rfl) h1;have hr:=Fy fNm r a.place 31 O1.le;have hf:=O1.few;obtain⟨O2,q1,q2,q3,q4⟩:=dm (st:={a with place:=runN fNm r a.place 31}) ⟨hr.2.1,by show a.toks.length≤runN fNm r a.place 31;omega,O1.sec,O1.row⟩ (mX (by decide)) h
 have q1':s1.place=runN fNm r a.place 31+1:=q1;exact⟨⟨O2,by omega⟩,q2.trans e2,q3.trans e3,q4.trans e4⟩
theorem Ew{b:Nat}(O:Ok r st)(hl:st.place<r.length)(hs:st.aV.length<16)(h:zP b r st=.ok s1):On r st s1:=by
 obtain⟨a,h1,h⟩:=dA h;injection h with h;subst h
 have hf:=O.few;obtain⟨⟨O1,l1⟩,e1,e2,e3⟩:=vX (st:={st with place:=st.place+1}) ⟨by show st.place+1≤_;omega,by show st.toks.length≤st.place+1;omega,O.sec,O.row⟩ h1
 have l1':st.place+1<a.place:=l1;have e3':a.toks=st.toks:=e3;have e2':a.aV=st.aV:=e2;refine⟨j8 ⟨O1.le,O1.few,?_,O1.row⟩ ?_,by show st.place<a.place;omega⟩
 ·show(a.aV++[a.kind]).length≤16;rw[List.length_append,e2'];simp only[List.length_cons,List.length_nil];omega
 ·show a.toks.length<a.place;rw[e3'];omega
theorem Eu{b:Nat}(O:Ok r st)(hl:st.place<r.length)(h:zO b r st=.ok s1):On r st s1:=by
 obtain⟨a,h1,h⟩:=dA h;injection h with h;subst h
 have hf:=O.few;obtain⟨O1,q1,q2,q3,q4⟩:=dm (st:={st with place:=st.place+1}) ⟨by show st.place+1≤_;omega,by show st.toks.length≤st.place+1;omega,O.sec,O.row⟩ (mX (by decide)) h1
 have q1':a.place=st.place+1+1:=q1;have q4':a.toks=st.toks:=q4;refine⟨j8 ⟨O1.le,O1.few,?_,O1.row⟩ ?_,by show st.place<a.place;omega⟩
 ·show a.aV.dropLast.length≤16;rw[List.length_dropLast];have:=O1.sec;omega
 ·show a.toks.length<a.place;rw[q4'];omega
theorem AY(O:Ok r st)(hl:st.place<r.length)(h:kj r st=.ok s1):On r st s1:=by
 obtain⟨a,h1,h⟩:=dA h;obtain⟨O1,q1,q2,q3,q4⟩:=dm O (λ_=>hl) h1;have hf:=O.few
 split at h
 ·rename_i hc;rw[Bool.and_eq_true]at hc;obtain⟨O2,l2⟩:=Eu O1 (mX (by decide) hc.1) h
  exact⟨O2,by omega⟩
 ·split at h
  ·rename_i hc;rw[Bool.and_eq_true,decide_eq_true_eq]at hc;obtain⟨O2,l2⟩:=Ew O1 (oa (P:=λy=>[42,63,33].contains y) hc.1 rfl) (by rw[q3];exact hc.2) h
   exact⟨O2,by omega⟩
  ·split at h
   ·cases h
   ·split at h
    ·rename_i hb;injection h with h;subst h
     have:=mX (z:=123) (by decide) (decide_eq_true hb)
     refine⟨j8 ⟨by show a.place+1≤_;omega,by show a.toks.length≤a.place+1;rw[q4];omega,O1.sec,O1.row⟩ (by show a.toks.length<a.place+1;rw[q4];omega),by show st.place<a.place+1;omega⟩
    ·obtain⟨d,h2,h⟩:=dA h;injection h with h;subst h
     obtain⟨⟨O2,l2⟩,e1,e2,e3⟩:=vX O1 h2;refine⟨j8 O2 (by rw[e3,q4];omega),by show st.place<d.place;omega⟩
def wq:List (List Str):=[dc.map (·.1),["t;"],[";"],[""],["mp;","pos;"],["p;"],["os;"],["s;"],["uot;"],["ot;"]]
theorem xR:∀es∈wq,es≠[("":Str)]→∀e∈es,0<e.cps.size∧nh e≠256∧fL (nh e) es∈wq:=by decide+kernel
theorem Cf:∀es∈wq,∀e∈es,e.cps.size≤100∧PyData.strOk e=true:=by decide+kernel
def wgt(es:List Str):Nat:=(es.map λe=>e.cps.size).sum
theorem ER:∀es∈wq,es≠[("":Str)]→∀e∈es,wgt (fL (nh e) es)<wgt es:=by decide+kernel
theorem tV{b:Int}{es:List Str}(h:fL b es≠[]):∃e∈es,nh e=b:=by
 unfold fL at h;cases hf:es.filter (λe=>decide (nh e=b))with
 |nil=>rw[hf]at h;exact absurd rfl h
 |cons e l=>
  have:e∈es.filter (λe=>decide (nh e=b)):=by rw[hf];exact List.mem_cons_self
  rw[List.mem_filter,decide_eq_true_eq]at this;exact⟨e,this⟩
theorem zt:∀{f:Nat}{es:List Str}{k n:Nat},k≤r.length→es∈wq→jx r f es k=.ok n→k≤n∧n≤r.length
 |0,es,k,n,_,_,h=>by cases h
 |f+1,es,k,n,hk,he,h=>by
  unfold jx at h
  split at h
  ·injection h with h;subst h;exact⟨Nat.le_refl _,hk⟩
  ·rename_i h1
   split at h
   ·cases h
   ·rename_i h2;obtain⟨e,he1,he2⟩:=tV h2;obtain⟨_,g1,g2⟩:=xR es he h1 e he1;have lt:k<r.length:=mX (z:=nh e) g1 (decide_eq_true he2.symm);rw[he2]at g2;obtain⟨a1,a2⟩:=zt (f:=f) (es:=fL (pk r k) es) (k:=k+1) (n:=n) lt g2 h;exact⟨by omega,a2⟩
theorem B2(O:Ok r st)(hl:st.place<r.length)(h:zR r st=.ok s1):On r st s1∧s1.aV=st.aV:=by
 obtain⟨n,h1,h⟩:=dA h;injection h with h;subst h
 have hf:=O.few;obtain⟨a1,a2⟩:=zt (k:=st.place+1) hl (by decide+kernel) h1
 exact⟨⟨j8 ⟨a2,by show st.toks.length≤n;omega,O.sec,O.row⟩ (by show st.toks.length<n;omega),by show st.place<n;omega⟩,rfl⟩
theorem Er(O:Ok r st)(hl:st.place<r.length)(h:vW r st=.ok s1):On r st s1:=by
 unfold vW at h
 split at h
 ·exact(Gf O hl h).1
 ·split at h
  ·exact(B2 O hl h).1
  ·injection h with h;subst h;exact(xw O hl).1
theorem Ge(O:Ok r st)(hl:st.place<r.length)(h:AX r st=.ok s1):On r st s1:=by
 unfold AX at h;have hf:=O.few
 split at h
 ·injection h with h;subst h
  exact⟨⟨by show st.place+1≤_;omega,by show st.toks.length≤st.place+1;omega,O.sec,O.row⟩,Nat.lt_succ_self _⟩
 ·split at h
  ·exact(B2 O hl h).1
  ·split at h
   ·cases h
   ·injection h with h;subst h;exact(xw O hl).1
theorem CW(O:Ok r st)(h:qW r st=.ok s1):On r st s1:=by
 unfold qW at h
 split at h
 ·exact(Ex O h).1
 ·exact(xA O h).1
theorem xx{tm:Bool}(O:Ok r st)(hl:st.place<r.length)(h:iV r tm st=.ok s1):On r st s1:=by
 unfold iV at h
 split at h
 ·exact AY O hl h
 ·split at h
  ·exact Er O hl h
  ·split at h
   ·exact Ge O hl h
   ·exact CW O h
end
theorem tf{H:Hp}{a d:Addr}{o1 o2:HO}(ha:H a=none)(hd:H d=none):aE H (upd (upd H d o1) a o2):=λb o e=>by rw[ae (aw e ha),ae (aw e hd)];exact e
def HB(c:Cs):Sp:=λvs H Q _=>∃x r tm st,vs=[.ref x.p]∧a6 c H x r tm st∧∀H',aE H H'→Q (.int (pk r st.place)) H'
theorem aL(T:Txt K mg c):bU P w K mg base c.Scanner "peek" ["self"] 1 (HB c):=by
 refine T.oA.has (k:=0) uK (λvs H Q E h=>?_) (λfa cdv A outer sh0 H vs Q E hr h=>?_)
 ·obtain⟨x,r,tm,st,rfl,_⟩:=h;rfl
 ·obtain⟨x,r,tm,st,rfl,S,k⟩:=h;refine⟨_,(ag (aP (az vL (ak (pv 0) rfl) (aK aD (by rfl) T.b8 PySem.boot_len (aa (ak (pv 0) rfl) ai)) (aB _)) (ah (ay (dz bD (ak (pv 0) rfl) (ak (pv 0) rfl) (λ_ _=>rfl)))) aO) (ah (ay (pg T.xU)))),?_⟩
  try dsimp only[aM]
  have k0:=k H (aE.refl H);walk_at"sd";refine⟨_,_,rfl,.inl (SqL.of S.row),?_⟩;rw[List.length_map];walk_at"sd"
  ·rename_i hl;rw[decide_eq_true_eq]at hl;have hl:st.place<r.length:=by omega
   refine⟨_,_,_,_,rfl,rfl,SqL.of S.row,c6 (j:=st.place) (v:=.int (pk r st.place)) ?_,k0⟩;rw[List.getElem?_map,List.getElem?_eq_getElem hl];unfold pk;rw[List.getD_eq_getElem?_getD,List.getElem?_eq_getElem hl];rfl
  ·rename_i hl;rw[decide_eq_false_iff_not]at hl;have e:pk r st.place=256:=by
    unfold pk;rw[List.getD_eq_getElem?_getD,List.getElem?_eq_none (by omega)];rfl
   rw[e]at k0;exact k0
def JI(c:Cs):Sp:=λvs H Q E=>∃b x r tm st,vs=[.ref x.p,.bl b]∧a6 c H x r tm st∧Aft c x r tm H (tk b st) (λ_ H'=>Q .non H') E
theorem aX(T:Txt K mg c):bU P w K mg base c.Scanner "take_if" ["self","allowed"] 3 (JI c):=by
 refine T.kh.has (k:=2) qH (λvs H Q E h=>?_) (λfa cdv A outer sh0 H vs Q E hr h=>?_)
 ·obtain⟨b,x,r,tm,st,rfl,_⟩:=h;rfl
 ·obtain⟨b,x,r,tm,st,rfl,S,k⟩:=h;refine⟨_,(ag (aP (mi (dk (pv 1))) (ah (yn (hZ T) hr oZ (aa (ak (pv 0) rfl) ai))) aO) (ah (bN (pv 0) aA gk))),?_⟩
  try dsimp only[aM]
  cases b with
  |true=>
   walk_at"sd";refine mK T S rfl λH' S' f=>?_;exact k H' S' f
  |false=>
   walk_at"sd";refine o6 (v:=.int st.place) (λH' dx h s=>k H' dx h (Fr.of s)) λQ q=>lW T S rfl q
def HD(c:Cs):Sp:=λvs H Q _=>∃(wh:Int)(b:Nat),∃x r tm st,vs=[.ref x.p,.int wh,.int b]∧a6 c H x r tm st∧st.toks.length≤10000∧∀H',a6 c H' x r tm (nt wh b st)→Fr x.F H H'→Q .non H'
theorem bH(T:Txt K mg c):bU P w K mg base c.Scanner "note" ["self","what","begin"] 3 (HD c):=by
 refine T.oB.has (k:=2) uL (λvs H Q E h=>?_) (λfa cdv A outer sh0 H vs Q E hr h=>?_)
 ·obtain⟨wh,b,x,r,tm,st,rfl,_⟩:=h;rfl
 ·obtain⟨wh,b,x,r,tm,st,rfl,S,hz,k⟩:=h;refine⟨_,(ah (ax (dO PySem.F.plainAttrs_list PySem.F.slot_list_append PySem.F.type_list_append bq (ak (pv 0) rfl) (aa (pmk (wQ T) hr nox (aa (pv 1) (aa (ak (pv 0) rfl) (aa (pv 2) (aa (ak (pv 0) rfl) ai))))) ai)))),?_⟩
  try dsimp only[aM]
  walk_at"sd";obtain⟨as,ht,hf⟩:=id S.toks;refine tyL ht ?_;walk_at"sd";intro a d ha hd nd;refine⟨a,d,_,_,_,_,_,rfl,rfl,rfl,?_⟩;have s2:aE H (upd (upd H d (.own a)) a (.ins c.Token d (bO (.int wh) (.int st.kind) (.int b) (.int st.place)))):=tf ha hd;have S2:=S.same s2;have hf2:F2 (λa t=>xZ c (upd (upd H d (.own a)) a (.ins c.Token d (bO (.int wh) (.int st.kind) (.int b) (.int st.place)))) a t) [a] [⟨wh,st.kind,b,st.place⟩]:=.cons ⟨d,af⟩ .nil;walk_at"sd";refine eO (s2 _ _ ht) (by rw[List.length_map,hf.len];exact Nat.lt_of_le_of_lt hz (by decide)) ?_
  refine k _ (S2.Il (t:=⟨wh,st.kind,b,st.place⟩) (s2 _ _ ht) (hf.imp λa t⟨d,h⟩=>⟨d,s2 _ _ h⟩) ⟨d,af⟩) ((Fr.of s2).trans (ff (.inr (.inr rfl))))
theorem Ok.toks{r:List Int}{st:SS}(O:Ok r st):st.toks.length≤10000:=by
 have h1:=O.few;have h2:=O.le;have h3:=O.row;omega
theorem dP(T:Txt K mg c):bU P w K mg base c.Scanner "take_plain_byte" ["self"] 4 (spM c (λ_ _ st=>.ok (tN st)) λr _ st=>Ok r st):=by
 refine T.eu.has (k:=3) dG (λvs H Q E h=>?_) (λfa cdv A outer sh0 H vs Q E hr h=>?_)
 ·obtain⟨x,r,tm,st,rfl,_⟩:=h;rfl
 ·obtain⟨x,r,tm,st,rfl,S,O,k⟩:=h;refine⟨_,(ag (aI (i:=1) dG.nd rfl (Or.inl rfl) (ak (pv 0) rfl)) (ag (bN (pv 0) aA gk) (ah (ax (pm (bH T) hr nox (pv 0) (aa (pg T.mD) (aa (pv 1) ai))))))),?_⟩
  try dsimp only[aM]
  walk_at"sd";refine mK T S rfl λH1 S1 f1=>?_;walk_at"sd";exact⟨6,st.place,x,r,tm,_,rfl,S1,O.toks,λH2 S2 f2=>k H2 S2 (f1.trans f2)⟩
theorem cz(T:Txt K mg c):bU P w K mg base c.Scanner "take_blank_or_tag_end" ["self"] 4 (spM c (λr _ st=>jH r st) λ_ _ _=>True):=by
 refine T.cI.has (k:=3) cw (λvs H Q E h=>?_) (λfa cdv A outer sh0 H vs Q E hr h=>?_)
 ·obtain⟨x,r,tm,st,rfl,_⟩:=h;rfl
 ·obtain⟨x,r,tm,st,rfl,S,_,k⟩:=h;have k:Aft c x r tm H (jH r st) (λ_ H'=>Q .non H') E:=k;refine⟨_,(ag (aI (i:=1) cw.nd rfl (Or.inl rfl) (pm0 (aL T) hr nox (pv 0))) (ag (ax (pm (aX T) hr aJ (pv 0) (aa (uh (pf (zD T) hr nox (aa (pv 1) ai)) (kM (bK bh (pv 1) (pg T.pA) (aB _)))) ai))) (ah (aT (pv 0) (og (az bh (pv 1) (pg T.pA) (aB _)) (pg T.rf) (pg T.gy)) rfl)))),?_⟩
  try dsimp only[aM]
  walk_at"sd";refine⟨x,r,tm,st,rfl,S,λH1 s1=>?_⟩;have S1:=S.same s1;walk_at"sd";refine c_I λH2 s2=>?_;have S2:=S1.same s2;have k2:=k.from (Fr.of (s1.trans s2));have go:∀b:Bool,(qZ (pk r st.place)||decide (pk r st.place=62))=b→∀(D:Ends),(∀H3 s3,a6 c H3 x r tm s3→Aft c x r tm H3 (.ok {s3 with kind:=if pk r st.place=62 then 1 else 4}) (λ_ H'=>Q .non H') E→D.nx [some (.ref x.p),some (.int (pk r st.place))] H3)→
    JI c [.ref x.p,.bl b] H2 (λ_ H1=>D.nx [some (.ref x.p),some (.int (pk r st.place))] H1) E:=by
   intro b hb D hD;refine⟨b,x,r,tm,st,rfl,S2,?_⟩;unfold jH at k2;rw[hb]at k2;exact k2.bind λs3 H3 e3 S3 k3=>hD H3 s3 S3 k3
  have fin:∀H3 s3,a6 c H3 x r tm s3→Aft c x r tm H3 (.ok {s3 with kind:=if pk r st.place=62 then 1 else 4}) (λ_ H'=>Q .non H') E→HS K (b9 0) (tIf (xg (tOp rEq (b9 1) (tC (.int 62)))) (tC (.int 1)) (tC (.int 4))) "kind" {nx:=λ_ H'=>Q .non H',rt:=Q} [some (.ref x.p),some (.int (pk r st.place))] H3:=by
   intro H3 s3 S3 k3;walk_at"rd"
   ·rename_i hq;rw[decide_eq_true_eq]at hq;rw[if_pos hq]at k3;exact uV T S3 λH4 S4 f4=>k3 H4 S4 f4
   ·rename_i hq;rw[decide_eq_false_iff_not]at hq;rw[if_neg hq]at k3;exact uV T S3 λH4 S4 f4=>k3 H4 S4 f4
  walk_at"sd"
  ·rename_i hb;exact go true (by rw[hb];rfl) _ fin
  ·rename_i hb;exact go _ (by rw[hb,Bool.false_or]) _ fin
theorem DP{P:Int→Bool}{r:List Int}{k:Nat}(h:P (pk r k)=true)(hk:k<r.length):run P r k=run P r (k+1):=by
 unfold run;have e:r.drop k=pk r k::r.drop (k+1):=by
  rw[List.drop_eq_getElem_cons hk];unfold pk;rw[List.getD_eq_getElem?_getD,List.getElem?_eq_getElem hk];rfl
 rw[e,List.takeWhile_cons,if_pos h,List.length_cons];omega
theorem DO{P:Int→Bool}{r:List Int}{k:Nat}(h:P (pk r k)=false):run P r k=k:=by
 unfold run;rcases Nat.lt_or_ge k r.length with hk|hk
 ·have e:r.drop k=pk r k::r.drop (k+1):=by
   rw[List.drop_eq_getElem_cons hk];unfold pk;rw[List.getD_eq_getElem?_getD,List.getElem?_eq_getElem hk];rfl
  rw[e,List.takeWhile_cons,if_neg (by rw[h];exact Bool.false_ne_true)];rfl
 ·rw[List.drop_eq_nil_of_le hk];rfl
theorem bX(T:Txt K mg c):bU P w K mg base c.Scanner "take_markup_name" ["self","what"] 4 (KL c (λi r _ st=>qm i r st) λ_ r _ st=>Ok r st):=by
 refine T.dU.has (k:=3) dv (λvs H Q E h=>?_) (λfa cdv A outer sh0 H vs Q E hr h=>?_)
 ·obtain⟨i,x,r,tm,st,rfl,_⟩:=h;rfl
 ·obtain⟨i,x,r,tm,st,rfl,S,O,k⟩:=h;have k:Aft c x r tm H (qm i r st) (λ_ H'=>Q .non H') E:=k;refine⟨_,(ag (aI (i:=2) dv.nd rfl (Or.inl rfl) (ak (pv 0) rfl)) (ag (ax (pm (aX T) hr aJ (pv 0) (aa (pf (fX T) hr nox (aa (pm0 (aL T) hr nox (pv 0)) ai)) ai))) (ag (lh PassesOwn.leaving (dk (pf (eN T) hr nox (aa (pm0 (aL T) hr nox (pv 0)) ai))) (ah (bN (pv 0) aA gk))) (ah (ax (pm (bH T) hr nox (pv 0) (aa (pv 1) (aa (pv 2) ai)))))))),?_⟩
  try dsimp only[aM]
  walk_at"sd";refine⟨x,r,tm,st,rfl,S,λH1 s1=>?_⟩;have S1:=S.same s1;walk_at"sd";refine c_I λH2 s2=>?_;have S2:=S1.same s2;have k2:=k.from (Fr.of (s1.trans s2));walk_at"sd";refine⟨_,x,r,tm,st,rfl,S2,?_⟩;unfold qm at k2;refine k2.bind λs3 H3 e3 S3 k3=>?_;obtain⟨O3,_,_,_,_⟩:=dm O (λh=>oa h rfl) e3;refine cb ?_;refine aS ?_;refine⟨λm σ' H'=>σ'=[some (.ref x.p),some (.int i),some (.int st.place)]∧∃n,m=r.length-n∧a6 c H' x r tm {s3 with place:=n}∧s3.place≤n∧n≤r.length∧run fMk r s3.place=run fMk r n∧Fr x.F H3 H',⟨_,rfl,s3.place,rfl,S3,Nat.le_refl _,O3.le,rfl,Fr.refl _⟩,?_⟩
  rintro m σ' H4 ⟨rfl,n,rfl,S4,l1,l2,e4,f4⟩;walk_at"sd";refine⟨x,r,tm,_,rfl,S4,λH5 s5=>?_⟩;have S5:=S4.same s5;walk_at"sd";refine c_I λH6 s6=>?_;have S6:=S5.same s6;walk_at"sd"
  ·rename_i hb;have hb:fMk (pk r n)=true:=hb;have hlt:n<r.length:=oa hb rfl;refine⟨_,λσ' H' h=>h,?_⟩;refine mK T S6 rfl λH7 S7 f7=>?_;refine⟨r.length-(n+1),by omega,rfl,n+1,rfl,S7,by omega,hlt,e4.trans (DP hb hlt),((f4.trans (Fr.of s5)).trans (Fr.of s6)).trans f7⟩
  ·rename_i hb;have hb:fMk (pk r n)=false:=hb;rw[DO hb]at e4;walk_at"sd";refine⟨i,st.place,x,r,tm,_,rfl,S6,?_,λH7 S7 f7=>?_⟩
   ·exact O3.toks
   ·rw[e4]at k3;exact k3 H7 S7 (((f4.trans (Fr.of s5)).trans (Fr.of s6)).trans f7)
theorem kN(T:Txt K mg c):bU P w K mg base c.Scanner "take_tag_name" ["self"] 5 (spM c (λr _ st=>zN r st) λr _ st=>Ok r st∧st.place<r.length):=by
 refine T.fC.has (k:=4) kG (λvs H Q E h=>?_) (λfa cdv A outer sh0 H vs Q E hr h=>?_)
 ·obtain⟨x,r,tm,st,rfl,_⟩:=h;rfl
 ·obtain⟨x,r,tm,st,rfl,S,⟨O,hl⟩,k⟩:=h;have k:Aft c x r tm H (zN r st) (λ_ H'=>Q .non H') E:=k;have hf:=O.few;refine⟨_,(ag (bN (pv 0) aA gk) (ah (aP (az bh (pm0 (aL T) hr nox (pv 0)) (pg T.yV) (aB _)) (ag (bN (pv 0) aA gk) (ag (ax (pm (bX T) hr aJ (pv 0) (aa (pg T.qx) ai))) (ah (ax (pm (aX T) hr aJ (pv 0) (aa (bK bh (pm0 (aL T) hr nox (pv 0)) (pg T.pA) (aB _)) ai)))))) (ag (ax (pm (bX T) hr aJ (pv 0) (aa (pg T.qw) ai))) (ah (ax (pm0 (cz T) hr aJ (pv 0)))))))),?_⟩
  try dsimp only[aM]
  walk_at"sd";refine mK T S rfl λH1 S1 f1=>?_;walk_at"sd";refine⟨x,r,tm,_,rfl,S1,λH2 s2=>?_⟩;have S2:=S1.same s2;have k2:=k.from (f1.trans (Fr.of s2));unfold zN at k2;walk_at"sd"
  ·rename_i hb;rw[decide_eq_true_eq]at hb;have hb:pk r (st.place+1)=47:=hb;have h2:=mX (k:=st.place+1) (z:=47) (by decide) (decide_eq_true hb)
   rw[if_pos hb]at k2;refine mK T S2 rfl λH3 S3 f3=>?_;have k3:=k2.from f3;walk_at"sd";refine⟨5,x,r,tm,_,rfl,S3,⟨by show st.place+1+1≤_;omega,by show st.toks.length≤st.place+1+1;omega,O.sec,O.row⟩,?_⟩
   refine k3.bind λs4 H4 e4 S4 k4=>?_;walk_at"sd";refine⟨x,r,tm,_,rfl,S4,λH5 s5=>?_⟩;have S5:=S4.same s5;walk_at"sd";exact⟨_,x,r,tm,_,rfl,S5,k4.from (Fr.of s5)⟩
  ·rename_i hb;rw[decide_eq_false_iff_not]at hb;rw[if_neg hb]at k2;refine⟨2,x,r,tm,_,rfl,S2,⟨by show st.place+1≤_;omega,by show st.toks.length≤st.place+1;omega,O.sec,O.row⟩,?_⟩
   refine k2.bind λs4 H4 e4 S4 k4=>?_;walk_at"sd";exact⟨x,r,tm,_,rfl,S4,trivial,k4⟩
theorem g8(T:Txt K mg c):bU P w K mg base c.Scanner "take_attribute_name" ["self"] 5 (spM c (λr _ st=>xB r st) λr _ st=>Ok r st):=by
 refine T.cW.has (k:=4) cP (λvs H Q E h=>?_) (λfa cdv A outer sh0 H vs Q E hr h=>?_)
 ·obtain⟨x,r,tm,st,rfl,_⟩:=h;rfl
 ·obtain⟨x,r,tm,st,rfl,S,O,k⟩:=h;have k:Aft c x r tm H (xB r st) (λ_ H'=>Q .non H') E:=k;refine⟨_,(ag (ax (pm (bX T) hr aJ (pv 0) (aa (pg T.lI) ai))) (ag (ax (pm (aX T) hr aJ (pv 0) (aa (bK bh (pm0 (aL T) hr nox (pv 0)) (pg T.An) (aB _)) ai))) (ag (aI (i:=1) cP.nd rfl (Or.inl rfl) (pm0 (aL T) hr nox (pv 0))) (ag (ax (pm (aX T) hr aJ (pv 0) (aa (bK fA (pv 1) (kL (aa (pg T.gx) (aa (pg T.jP) ai))) (by with_unfolding_all rfl)) ai))) (ag (aT (pv 0) (pf (ni T) hr nox (aa (pv 1) ai)) rfl) (ah (ax (pm (bH T) hr nox (pv 0) (aa (pg T.kC) (aa (ak (pv 0) rfl) ai)))))))))),?_⟩
  try dsimp only[aM]
  walk_at"sd";refine⟨3,x,r,tm,st,rfl,S,O,?_⟩;refine k.bind λs1 H1 e1 S1 k1=>?_;obtain⟨⟨O1,_⟩,_,_⟩:=r8 O e1;walk_at"sd";refine⟨x,r,tm,_,rfl,S1,λH2 s2=>?_⟩;have S2:=S1.same s2;walk_at"sd";refine⟨_,x,r,tm,_,rfl,S2,?_⟩;refine(k1.from (Fr.of s2)).bind λs3 H3 e3 S3 k3=>?_;obtain⟨O3,_,_,_,_⟩:=dm O1 (mX (by decide)) e3
  walk_at"sd";refine⟨x,r,tm,_,rfl,S3,λH4 s4=>?_⟩;have S4:=S3.same s4;walk_at"sd";refine⟨by show 2≤sizeLine;decide,λp hp=>?_⟩
  have s5:=ao (o:=.tup [.int 34,.int 39]) hp;have S5:=S4.same s5;refine inN (l:=[34,39]) af ?_;walk_at"sd";refine⟨_,x,r,tm,_,rfl,S5,?_⟩;refine(k3.from (Fr.of (s4.trans s5))).bind λs6 H6 e6 S6 k6=>?_;obtain⟨O6,_,_,_,_⟩:=dm O3 zw e6;walk_at"sd";refine Je λH7 s7=>?_;have S7:=S6.same s7;walk_at"sd";refine uV T S7 λH8 S8 f8=>?_;walk_at"sd";exact⟨4,s6.place,x,r,tm,_,rfl,S8,O6.toks,λH9 S9 f9=>k6 H9 S9 (((Fr.of s7).trans f8).trans f9)⟩
theorem mm(T:Txt K mg c):bU P w K mg base c.Scanner "take_in_tag" ["self"] 6 (spM c (λr _ st=>qW r st) λr _ st=>Ok r st):=by
 refine T.gN.has (k:=5) lS (λvs H Q E h=>?_) (λfa cdv A outer sh0 H vs Q E hr h=>?_)
 ·obtain⟨x,r,tm,st,rfl,_⟩:=h;rfl
 ·obtain⟨x,r,tm,st,rfl,S,O,k⟩:=h;have k:Aft c x r tm H (qW r st) (λ_ H'=>Q .non H') E:=k;unfold qW at k;refine⟨_,(ah (aP (tD (az bh (ak (pv 0) rfl) (pg T.gy) (aB _)) (o7 (dk (pf (fX T) hr nox (aa (pm0 (aL T) hr nox (pv 0)) ai))))).pt (ah (ax (pm0 (g8 T) hr aJ (pv 0)))) (ah (ax (pm0 (cz T) hr aJ (pv 0)))))),?_⟩
  try dsimp only[aM]
  walk_at"sd"
  ·rename_i hk;refine⟨x,r,tm,st,rfl,S,λH1 s1=>?_⟩;have S1:=S.same s1;walk_at"sd";refine c_I λH2 s2=>?_;have S2:=S1.same s2;have k2:=k.from (Fr.of (s1.trans s2));rw[hk,Bool.true_and]at k2;walk_at"sd"
   ·rename_i hb;rw[if_pos hb]at k2;exact⟨x,r,tm,_,rfl,S2,O,k2⟩
   ·rename_i hb;rw[if_neg (by rw[hb];exact Bool.false_ne_true)]at k2
    exact⟨x,r,tm,_,rfl,S2,trivial,k2⟩
  ·rename_i hk;rw[hk,Bool.false_and,if_neg Bool.false_ne_true]at k;exact⟨x,r,tm,_,rfl,S,trivial,k⟩
def Pu(te:TE)(σ:L2.St)(H:Hp)(v:V):Prop:=∀Q:VK,Q v H→te σ H Q
def PuT(tt:TT)(σ:L2.St)(H:Hp)(b:Bool):Prop:=∀Q:Bool→Hp→Prop,Q b H→tt σ H Q
section
variable {σ:L2.St}{H:Hp}{v:V}{a b:Bool}{x y:Int}{ta tb:TE}{tt tu:TT}{i:Nat}
theorem bj(h:σ[i]?=some (some v)):Pu (b9 i) σ H v:=λQ q=>⟨v,h,q⟩
theorem eL:Pu (tC v) σ H v:=λQ q=>q
theorem bZ(ha:Pu ta σ H (.int x))(hb:Pu tb σ H (.int y)):Pu (tOp rEq ta tb) σ H (.bl (decide (x=y))):=λQ q=>ha _ (hb _ (pZ q))
theorem G0(ha:Pu ta σ H (.bl a))(hb:Pu tb σ H (.bl b)):Pu (Hi ta tb) σ H (.bl (a||b)):=λQ q=>ha _ ⟨a,rfl,by
 cases a with
 |true=>exact nE q
 |false=>exact gB (hb _ q)⟩
theorem Im(ha:Pu ta σ H (.bl a)):Pu (Dy ta) σ H (.bl (!a)):=λQ q=>ha _ ⟨a,rfl,q⟩
theorem b6(ha:Pu ta σ H (.bl a)):PuT (xg ta) σ H a:=λQ q=>ha _ ⟨a,rfl,q⟩
theorem J8(ha:Pu ta σ H (.bl a)):PuT (tB ta) σ H a:=λQ q=>ha _ ⟨a,rfl,q⟩
theorem J9(ha:PuT tt σ H a)(hb:PuT tu σ H b):PuT (Hn tt tu) σ H (a&&b):=λQ q=>ha _ (by
 cases a with
 |true=>exact nE (hb _ q)
 |false=>exact gB q)
end
theorem Ci{r:List Int}{k:Nat}(hk:k<r.length):r.drop k=pk r k::r.drop (k+1):=by
 rw[List.drop_eq_getElem_cons hk];unfold pk;rw[List.getD_eq_getElem?_getD,List.getElem?_eq_getElem hk];rfl
theorem CK{P:Int→Bool}{r:List Int}{k n:Nat}(h:P (pk r k)=true)(hk:k<r.length):runN P r k (n+1)=runN P r (k+1) n:=by
 unfold runN;rw[Ci hk,List.take_succ_cons,List.takeWhile_cons,if_pos h,List.length_cons];omega
theorem CJ{P:Int→Bool}{r:List Int}{k n:Nat}(h:P (pk r k)=false):runN P r k n=k:=by
 unfold runN;rcases Nat.lt_or_ge k r.length with hk|hk
 ·cases n with
  |zero=>rw[List.take_zero];rfl
  |succ n=>rw[Ci hk,List.take_succ_cons,List.takeWhile_cons,if_neg (by rw[h];exact Bool.false_ne_true)];rfl
 ·rw[List.drop_eq_nil_of_le hk,List.take_nil];rfl
theorem CI{P:Int→Bool}{r:List Int}{k:Nat}:runN P r k 0=k:=by
 unfold runN;rw[List.take_zero];rfl
theorem cS(T:Txt K mg c):bU P w K mg base c.Scanner "take_name_and_brace" ["self"] 4 (spM c (λr _ st=>mNB r st) λr _ st=>Ok r st):=by
 refine T.cV.has (k:=3) cO (λvs H Q E h=>?_) (λfa cdv A outer sh0 H vs Q E hr h=>?_)
 ·obtain⟨x,r,tm,st,rfl,_⟩:=h;rfl
 ·obtain⟨x,r,tm,st,rfl,S,O,k⟩:=h;have k:Aft c x r tm H (mNB r st) (λ_ H'=>Q .non H') E:=k;refine⟨_,(ag (aI (i:=1) cO.nd rfl (Or.inl rfl) (ak (pv 0) rfl)) (ag (ax (pm (aX T) hr aJ (pv 0) (aa (pf (fX T) hr nox (aa (pm0 (aL T) hr nox (pv 0)) ai)) ai))) (ag (lh PassesOwn.leaving (tD (az vL (eM vK (ak (pv 0) rfl) (pv 1)) (pg T.jR) (aB _)) (o7 (dk (pf (j7 T) hr nox (aa (pm0 (aL T) hr nox (pv 0)) ai))))).pt (ah (bN (pv 0) aA gk))) (ah (ax (pm (aX T) hr aJ (pv 0) (aa (bK bh (pm0 (aL T) hr nox (pv 0)) (pg T.iX) (aB _)) ai))))))),?_⟩
  try dsimp only[aM]
  walk_at"sd";refine⟨x,r,tm,st,rfl,S,λH1 s1=>?_⟩;have S1:=S.same s1;walk_at"sd";refine c_I λH2 s2=>?_;have S2:=S1.same s2;have k2:=k.from (Fr.of (s1.trans s2));walk_at"sd";refine⟨_,x,r,tm,st,rfl,S2,?_⟩;unfold mNB at k2;refine k2.bind λs3 H3 e3 S3 k3=>?_;obtain⟨O3,e5,_,_,_⟩:=dm O (λh=>oa h rfl) e3;refine cb ?_;refine aS ?_;refine⟨λm σ' H'=>σ'=[some (.ref x.p),some (.int st.place)]∧∃n,m=r.length-n∧a6 c H' x r tm {s3 with place:=n}∧s3.place≤n∧n≤r.length∧n≤s3.place+31∧runN fNm r s3.place 31=runN fNm r n (31-(n-s3.place))∧Fr x.F H3 H',⟨_,rfl,s3.place,rfl,S3,Nat.le_refl _,O3.le,Nat.le_add_right _ _,by rw[Nat.sub_self],Fr.refl _⟩,?_⟩
  rintro m σ' H4 ⟨rfl,n,rfl,S4,l1,l2,l3,e4,f4⟩;walk_at"sd"
  ·rename_i hb;rw[decide_eq_true_eq]at hb;have hb:n<s3.place+31:=by have:(n:Int)-st.place<32:=hb;omega
   refine⟨x,r,tm,_,rfl,S4,λH5 s5=>?_⟩;have S5:=S4.same s5;walk_at"sd";refine c_I λH6 s6=>?_;have S6:=S5.same s6;walk_at"sd"
   ·rename_i hb2;have hb2:fNm (pk r n)=true:=hb2;have hlt:n<r.length:=oa hb2 rfl;refine⟨_,λσ' H' h=>h,?_⟩;refine mK T S6 rfl λH7 S7 f7=>?_;refine⟨r.length-(n+1),by omega,rfl,n+1,rfl,S7,by omega,hlt,by omega,?_,((f4.trans (Fr.of s5)).trans (Fr.of s6)).trans f7⟩
    rw[e4,show 31-(n-s3.place)=(31-(n+1-s3.place))+1 by omega]
    exact CK hb2 hlt
   ·rename_i hb2;have hb2:fNm (pk r n)=false:=hb2;have en:=e4.trans (CJ hb2);have fz:=(f4.trans (Fr.of s5)).trans (Fr.of s6);refine⟨x,r,tm,_,rfl,S6,λH9 s9=>?_⟩;have S9:=S6.same s9;walk_at"sd";refine⟨_,x,r,tm,_,rfl,S9,?_⟩;rw[en]at k3;exact k3.from (fz.trans (Fr.of s9))
  ·rename_i hb;rw[decide_eq_false_iff_not]at hb;have hb:n=s3.place+31:=by have:¬(n:Int)-st.place<32:=hb;omega
   rw[show 31-(n-s3.place)=0 by omega,CI]at e4
   have en:=e4;have fz:=f4;refine⟨x,r,tm,_,rfl,S4,λH9 s9=>?_⟩;have S9:=S4.same s9;walk_at"sd";refine⟨_,x,r,tm,_,rfl,S9,?_⟩;rw[en]at k3;exact k3.from (fz.trans (Fr.of s9))
def spB(c:Cs)(f:Nat→List Int→SS→Except Nat SS)(pre:List Int→SS→Prop):Sp:=λvs H Q E=>∃(b:Nat),∃x r tm st,vs=[.ref x.p,.int b]∧a6 c H x r tm st∧pre r st∧Aft c x r tm H (f b r st) (λ_ H'=>Q .non H') E
theorem iC(T:Txt K mg c):bU P w K mg base c.Scanner "take_section_begin" ["self","begin"] 5 (spB c zP λr st=>Ok r st∧st.place<r.length):=by
 refine T.df.has (k:=4) ik (λvs H Q E h=>?_) (λfa cdv A outer sh0 H vs Q E hr h=>?_)
 ·obtain⟨b,x,r,tm,st,rfl,_⟩:=h;rfl
 ·obtain⟨b,x,r,tm,st,rfl,S,⟨O,hl⟩,k⟩:=h;have hf:=O.few;refine⟨_,(ag (bN (pv 0) aA gk) (ag (ax (pm0 (cS T) hr aJ (pv 0))) (ag (ax (dO PySem.F.plainAttrs_list PySem.F.slot_list_append PySem.F.type_list_append bq (ak (pv 0) rfl) (aa (ak (pv 0) rfl) ai))) (ah (ax (pm (bH T) hr nox (pv 0) (aa (pg T.eY) (aa (pv 1) ai)))))))),?_⟩
  try dsimp only[aM]
  walk_at"sd";refine mK T S rfl λH1 S1 f1=>?_;walk_at"sd";have O1:Ok r {st with place:=st.place+1}:=⟨by show st.place+1≤_;omega,by show st.toks.length≤st.place+1;omega,O.sec,O.row⟩
  refine⟨x,r,tm,_,rfl,S1,O1,?_⟩;refine(k.from f1).bind λs2 H2 e2 S2 k2=>?_;obtain⟨⟨O2,_⟩,_,_,_⟩:=vX O1 e2;have hs:=O2.sec;walk_at"sd";refine tyL S2.aV ?_;walk_at"sd";refine eO S2.aV (by rw[List.length_map];exact Nat.lt_of_le_of_lt hs (by decide)) ?_
  have S3:=S2.BP (s2.aV++[s2.kind]);rw[List.map_append]at S3;have f3:Fr x.F H2 (upd H2 x.sa (.lst (s2.aV.map V.int++[.int s2.kind]))):=ff (.inr (.inl rfl));walk_at"sd";exact⟨10,b,x,r,tm,_,rfl,S3,O2.toks,λH4 S4 f4=>k2 H4 S4 (f3.trans f4)⟩
theorem zU{l:List Int}(h:l≠[]):∃z,(l.map V.int)[(l.map V.int).length-1]?=some (.int z)∧l.getLast?=some z:=by
 obtain⟨z,hz⟩:∃z,l.getLast?=some z:=by
  cases e:l.getLast? with
  |none=>exact absurd (List.getLast?_eq_none_iff.mp e) h
  |some z=>exact⟨z,rfl⟩
 refine⟨z,?_,hz⟩;rw[List.length_map,List.getElem?_map,←List.getLast?_eq_getElem?,hz];rfl
theorem jd(T:Txt K mg c):bU P w K mg base c.Scanner "take_section_end" ["self","begin"] 4 (spB c zO λr st=>Ok r st∧st.place<r.length∧st.aV≠[]):=by
 refine T.dS.has (k:=3) i7 (λvs H Q E h=>?_) (λfa cdv A outer sh0 H vs Q E hr h=>?_)
 ·obtain⟨b,x,r,tm,st,rfl,_⟩:=h;rfl
 ·obtain⟨b,x,r,tm,st,rfl,S,⟨O,hl,hn⟩,k⟩:=h;have hf:=O.few;refine⟨_,(ag (bN (pv 0) aA gk) (ag (ax (pm (aX T) hr aJ (pv 0) (aa (bK bh (pm0 (aL T) hr nox (pv 0)) (pg T.iX) (aB _)) ai))) (ag (ax (vH PySem.F.plainAttrs_list PySem.F.slot_list_pop PySem.F.type_list_pop vV (ak (pv 0) rfl))) (ah (ax (pm (bH T) hr nox (pv 0) (aa (pg T.ig) (aa (pv 1) ai)))))))),?_⟩
  try dsimp only[aM]
  walk_at"sd";refine mK T S rfl λH1 S1 f1=>?_;walk_at"sd";refine⟨x,r,tm,_,rfl,S1,λH2 s2=>?_⟩;have S2:=S1.same s2;walk_at"sd";refine⟨_,x,r,tm,_,rfl,S2,?_⟩;refine(k.from (f1.trans (Fr.of s2))).bind λs3 H3 e3 S3 k3=>?_;obtain⟨_,rfl⟩:=GG e3;obtain⟨z,hz,_⟩:=zU hn;walk_at"sd";refine tyL S3.aV ?_;refine⟨_,_,_,rfl,rfl,S3.aV,hz,?_⟩;have S4:=S3.BP st.aV.dropLast;have f4:Fr x.F H3 (upd H3 x.sa (.lst ((st.aV.map V.int).dropLast))):=ff (.inr (.inl rfl));rw[List.map_dropLast]at S4;walk_at"sd";exact⟨11,b,x,r,tm,_,rfl,S4,O.toks,λH5 S5 f5=>k3 H5 S5 (f4.trans f5)⟩
theorem He{te:TE}{σ:L2.St}{H:Hp}{v:V}{Q:VK}(h:Pu te σ H v)(q:Q v H):te σ H Q:=h Q q
theorem br{tt:TT}{σ:L2.St}{H:Hp}{b:Bool}{Q:Bool→Hp→Prop}(h:PuT tt σ H b)(q:Q b H):tt σ H Q:=h Q q
theorem K7{ts:TS}{D:Ends}{σ:L2.St}{H:Hp}(h:ts D σ H):ts D σ H:=h
theorem jg{xs:List V}{v:V}(h:xs[xs.length-1]?=some v)(hn:0<xs.length):atI xs (-1)=some v:=by
 unfold atI ixN;rw[if_neg (by decide),if_pos (by omega)]
 show xs[((-1:Int)+(xs.length:Int)).toNat]?=_;rw[show((-1:Int)+(xs.length:Int)).toNat=xs.length-1 by omega]
 exact h
theorem mn(T:Txt K mg c):bU P w K mg base c.Scanner "take_braces" ["self"] 6 (spM c (λr _ st=>kj r st) λr _ st=>Ok r st∧st.place<r.length):=by
 refine T.gO.has (k:=5) bo (λvs H Q E h=>?_) (λfa cdv A outer sh0 H vs Q E hr h=>?_)
 ·obtain⟨x,r,tm,st,rfl,_⟩:=h;rfl
 ·obtain⟨x,r,tm,st,rfl,S,⟨O,hl⟩,k⟩:=h;have k:Aft c x r tm H (kj r st) (λ_ H'=>Q .non H') E:=k;have hf:=O.few;refine⟨_,(ag (aI (i:=1) bo.nd rfl (Or.inl rfl) (ak (pv 0) rfl)) (ag (aI (i:=2) bo.nd rfl (Or.inl rfl) (pf (yx T) hr nox (aa (ak (pv 0) rfl) ai))) (ag (aI (i:=3) bo.nd rfl (Or.inl rfl) (bK vL (aK aD (by rfl) T.b8 PySem.boot_len (aa (ak (pv 0) rfl) ai)) (pg T.mY) (aB _))) (ag (aI (i:=4) bo.nd rfl (Or.inl rfl) (yq (bK (yu hr.units) (ak (pv 0) rfl) (aU ai) (aB _)) (kM (bK bh (dz bD (ak (pv 0) rfl) (dN cf aA) (λ_ _=>rfl)) (ak (pv 0) rfl) (aB _))))) (ag (ax (pm (aX T) hr aJ (pv 0) (aa (uh (pv 3) (uh (pv 4) (kM (D9 (pv 2))))) ai))) (ag (aI (i:=5) bo.nd rfl (Or.inl rfl) (pm0 (aL T) hr nox (pv 0))) (ah (aP (tD (az bh (pv 5) (pg T.yV) (aB _)) (o7 (dk (pv 4)))).pt (ah (ax (pm (jd T) hr aJ (pv 0) (aa (pv 1) ai)))) (ah (aP (tD (az fA (pv 5) (kL (aa (pg T.Bm) (aa (pg T.wA) (aa (pg T.Bn) ai)))) (by with_unfolding_all rfl)) (o7 (dk (pv 3)))).pt (ah (ax (pm (iC T) hr aJ (pv 0) (aa (pv 1) ai)))) (ah (aP (dk (pv 2)) (ah (yn (hZ T) hr oZ (aa (ak (pv 0) rfl) ai))) (ah (aP (az bh (pv 5) (pg T.iW) (aB _)) (ag (bN (pv 0) aA gk) (ah (ax (pm (bH T) hr nox (pv 0) (aa (pg T.eZ) (aa (pv 1) ai)))))) (ag (ax (pm0 (cS T) hr aJ (pv 0))) (ah (ax (pm (bH T) hr nox (pv 0) (aa (pg T.yY) (aa (pv 1) ai)))))))))))))))))))),?_⟩
  try dsimp only[aM]
  walk_at"sd";refine c_I λH1 s1=>?_;have S1:=S.same s1;walk_at"sd";refine⟨_,_,rfl,.inl (SqL.of S1.aV),?_⟩;rw[List.length_map];walk_at"sd";refine⟨Nat.zero_le _,λp hp=>?_⟩;have s2:=ao (o:=.lst []) hp;have S2:=S1.same s2;refine GY (l:=st.aV) (m:=[]) (SqL.of S2.aV) (SqL.of af) ?_;have hme:∀Q':VK,Q' (.bl (yF st)) (upd H1 p (.lst []))→∃b,V.bl (!decide (st.aV=[]))=.bl b∧if b=true then
    tOp rEq (tOp (CM K) (jk K (b9 0) "sections") (tUn (rU λi=>V.int (-i)) (tC (.int 1)))) (jk K (b9 0) "kind") [some (.ref x.p),some (.int st.place),some (.bl (jM st.kind)),some (.bl (decide ((st.aV.length:Int)<16))),none,none] (upd H1 p (.lst [])) Q' else Q' (.bl false) (upd H1 p (.lst [])):=by
   intro Q' q;refine⟨_,rfl,?_⟩;unfold yF at q;refine cj (λhb=>?_) (λhb=>?_)
   ·rw[hb,Bool.true_and]at q;have hn:st.aV≠[]:=by simpa using hb
    obtain⟨z,hz,hg⟩:=zU hn;walk_at"sd";refine⟨_,_,_,.int z,rfl,rfl,SqL.of S2.aV,jg hz (by rw[List.length_map];exact List.length_pos_iff.mpr hn),?_⟩
    walk_at"sd";rw[hg]at q;rw[show decide (some z=some st.kind)=decide (z=st.kind)from by simp]at q
    exact q
   ·rw[hb,Bool.false_and]at q;exact q
  refine hme _ ?_;refine cb ?_;refine aS ?_;refine kK ?_;refine s_call S2 rfl ?_;refine l9 ?_;refine He (G0 (bj rfl) (G0 (bj rfl) (Im (bj rfl)))) ?_;walk_at"sd";have hmb:decide ((st.aV.length:Int)<16)=decide (st.aV.length<16):=by
   rw[Bool.eq_iff_iff,decide_eq_true_eq,decide_eq_true_eq];omega
  rw[hmb];have k2:=k.from (Fr.of (s1.trans s2));unfold kj at k2;refine⟨_,x,r,tm,st,rfl,S2,?_⟩;refine k2.bind λs3 H3 e3 S3 k3=>?_;obtain⟨O3,q1,q2,q3,q4⟩:=dm O (λ_=>hl) e3
  clear hme
  walk_at"sd";refine⟨x,r,tm,_,rfl,S3,λH4 s4=>?_⟩;have S4:=S3.same s4;have k4:=k3.from (Fr.of s4);refine cb ?_;refine bC ?_;refine br (J9 (b6 (bZ (bj rfl) eL)) (J8 (bj rfl))) ?_;refine cj (λhb=>?_) (λhb=>?_)
  ·rw[if_pos hb]at k4;rw[Bool.and_eq_true]at hb;have hn:s3.aV≠[]:=by
    have:=hb.2;unfold yF at this;rw[Bool.and_eq_true]at this;rw[q3];simpa using this.1
   walk_at"sd";exact⟨st.place,x,r,tm,_,rfl,S4,⟨O3,mX (by decide) hb.1,hn⟩,k4⟩
  ·rw[if_neg (by rw[hb];exact Bool.false_ne_true)]at k4
   refine K7 ?_;refine bC ?_;refine DX ?_;refine kJ ?_;refine vC ?_;walk_at"sd1";refine GV ?_;walk_at"rd";refine⟨by show 3≤sizeLine;decide,λp5 hp5=>?_⟩
   have s5:=ao (o:=.tup [.int 42,.int 63,.int 33]) hp5;have S5:=S4.same s5;have k5:=k4.from (Fr.of s5);refine inN (l:=[42,63,33]) af ?_;walk_at"sd1";refine cj (λhc1=>?_) (λhc1=>?_)
   ·walk_at"sd1";walk_at"sd1";walk_at"sd1";refine cj (λhc2=>?_) (λhc2=>?_)
    ·have hc:([42,63,33].contains (pk r s3.place)&&decide (st.aV.length<16))=true:=by rw[hc1,hc2];rfl
     rw[if_pos hc]at k5;walk_at"sd";exact⟨st.place,x,r,tm,_,rfl,S5,⟨O3,oa (P:=λy=>[42,63,33].contains y) hc1 rfl⟩,k5⟩
    ·have hc:([42,63,33].contains (pk r s3.place)&&decide (st.aV.length<16))=false:=by rw[hc2,Bool.and_false]
     rw[if_neg (by rw[hc];exact Bool.false_ne_true)]at k5
     walk_at"sd"
     ·rename_i ht;rw[if_pos ht]at k5;exact o6 (v:=.int s3.place) (λH' dx h s=>k5 H' dx h (Fr.of s)) λQ q=>lW T S5 rfl q
     ·rename_i ht hb6;rw[if_neg (by rw[ht];exact Bool.false_ne_true)]at k5
      rw[decide_eq_true_eq]at hb6;rw[if_pos hb6]at k5;refine mK T S5 rfl λH6 S6 f6=>?_;walk_at"sd";exact⟨8,st.place,x,r,tm,_,rfl,S6,O3.toks,λH7 S7 f7=>k5 H7 S7 (f6.trans f7)⟩
     ·rename_i ht hb6;rw[if_neg (by rw[ht];exact Bool.false_ne_true)]at k5
      rw[decide_eq_false_iff_not]at hb6;rw[if_neg hb6]at k5;refine⟨x,r,tm,_,rfl,S5,O3,?_⟩;refine k5.bind λs6 H6 e6 S6 k6=>?_;obtain⟨⟨O6,_⟩,_,_,_⟩:=vX O3 e6;walk_at"sd";exact⟨9,st.place,x,r,tm,_,rfl,S6,O6.toks,λH7 S7 f7=>k6 H7 S7 f7⟩
   ·have hc:([42,63,33].contains (pk r s3.place)&&decide (st.aV.length<16))=false:=by rw[hc1,Bool.false_and]
    refine gB ?_;rw[if_neg (by rw[hc];exact Bool.false_ne_true)]at k5
    walk_at"sd"
    ·rename_i ht;rw[if_pos ht]at k5;exact o6 (v:=.int s3.place) (λH' dx h s=>k5 H' dx h (Fr.of s)) λQ q=>lW T S5 rfl q
    ·rename_i ht hb6;rw[if_neg (by rw[ht];exact Bool.false_ne_true)]at k5
     rw[decide_eq_true_eq]at hb6;rw[if_pos hb6]at k5;refine mK T S5 rfl λH6 S6 f6=>?_;walk_at"sd";exact⟨8,st.place,x,r,tm,_,rfl,S6,O3.toks,λH7 S7 f7=>k5 H7 S7 (f6.trans f7)⟩
    ·rename_i ht hb6;rw[if_neg (by rw[ht];exact Bool.false_ne_true)]at k5
     rw[decide_eq_false_iff_not]at hb6;rw[if_neg hb6]at k5;refine⟨x,r,tm,_,rfl,S5,O3,?_⟩;refine k5.bind λs6 H6 e6 S6 k6=>?_;obtain⟨⟨O6,_⟩,_,_,_⟩:=vX O3 e6;walk_at"sd";exact⟨9,st.place,x,r,tm,_,rfl,S6,O6.toks,λH7 S7 f7=>k6 H7 S7 f7⟩
theorem ES:∀es∈wq,es.length≤5:=by decide+kernel
theorem ei(T:Txt K mg c):bU P w K mg base c.Scanner "take_reference" ["self"] 4 (spM c (λr _ st=>zR r st) λr _ st=>Ok r st∧st.place<r.length):=by
 refine T.eP.has (k:=3) a7 (λvs H Q E h=>?_) (λfa cdv A outer sh0 H vs Q E hr h=>?_)
 ·obtain⟨x,r,tm,st,rfl,_⟩:=h;rfl
 ·obtain⟨x,r,tm,st,rfl,S,⟨O,hl⟩,k⟩:=h;have k:Aft c x r tm H (zR r st) (λ_ H'=>Q .non H') E:=k;unfold zR at k
  generalize hG:jx r 30 (dc.map (·.1)) (st.place+1)=G at k
  have hf:=O.few;refine⟨_,(ag (aI (i:=1) a7.nd rfl (Or.inl rfl) (ak (pv 0) rfl)) (ag (bN (pv 0) aA gk) (ag (aI (i:=2) a7.nd rfl (Or.inl rfl) (pf0 (rL T) hr nox)) (ag (lh PassesOwn.leaving (az (yu hr.units) (pv 2) (aU (aa Iu ai)) (aB _)) (ag (aI (i:=3) a7.nd rfl (Or.inr rfl) (pm0 (aL T) hr nox (pv 0))) (ag (D3 (i:=2) (own:=[("end",4)]) rfl a7.nd rfl rfl (Fe rfl rfl rfl (by decide+kernel)) (j6 (pv 2)) (iO (N:=["self","begin","ends","byte","end"]) (sc:=aj cC) (by decide+kernel)) (λ_ _ _ _ _=>(cn (i:=4) a7.nd rfl (Or.inl rfl))) (λ_ _ _ _ _=>(uY (az bh (aK sy (by rfl) T.Ap PyProof.Rows.boot_ord (aa (dz II (pv 4) aA (λ_ _=>rfl)) ai)) (pv 3) (aB _)))) (λ_ _ _ _ _=>(iA HN (pv 4) (dy aA) BR))) (ah (ax (pm (aX T) hr aJ (pv 0) (aa (bK (yu hr.units) (pv 2) (aU ai) (aB _)) ai))))))) (ah (ax (pm (bH T) hr nox (pv 0) (aa (pg T.kx) (aa (pv 1) ai))))))))),?_⟩
  try dsimp only[aM]
  walk_at"sd";refine mK T S rfl λH1 S1 f1=>?_;walk_at"sd";refine⟨rfl,λH2 l s2 hl2 hd2=>?_⟩;have S2:=S1.same s2;refine cb ?_;refine aS ?_;refine⟨λm σ' H'=>∃(n f:Nat)(es:List Str)(la:Addr)(v:Option V),σ'=[some (.ref x.p),some (.int st.place),some (.ref la),v,none]∧m=wgt es∧a6 c H' x r tm {st with place:=n}∧H' la=some (.lst (es.map V.str))∧es∈wq∧wgt es<f∧st.place+1≤n∧n≤r.length∧
   G=jx r f es n∧Fr x.F H H',⟨_,st.place+1,30,dc.map (·.1),l,none,rfl,rfl,S2,hd2,by decide+kernel,by decide+kernel,Nat.le_refl _,hl,hG.symm,f1.trans (Fr.of s2)⟩,?_⟩
  rintro m σ' H3 ⟨n,f,es,la,v,rfl,rfl,S3,hla,hes,hw,ln1,ln2,eg,f3⟩;have oks:=Cf es hes;walk_at"sd";refine⟨by show 1≤sizeLine;decide,λp4 hp4=>?_⟩
  have s4:=ao (o:=.lst [.str ""]) hp4;have S4:=S3.same s4;refine GX (l:=es) (m:=[("":Str)]) (SqL.of (s4 _ _ hla)) (SqL.of af) (λe he=>(oks e he).2) (by decide+kernel) ?_
  refine bR ?_;refine cj (λhb=>?_) (λhb=>?_)
  ·have hne:es≠[("":Str)]:=by simpa using hb
   have stp:=xR es hes hne;refine⟨_,λσ' H' h=>h,?_⟩;walk_at"sd";refine⟨x,r,tm,_,rfl,S4,λH5 s5=>?_⟩;have S5:=S4.same s5;have hla5:=s5 _ _ (s4 _ _ hla);refine cb ?_;refine aS ?_;refine lg ?_;refine lcF (λv=>match v with|.str e=>decide (nh e=pk r n)|_=>false) (λv=>match v with|.str e=>.str (GH e)|v=>v) (SqL.of hla5) (by rw[List.length_map];exact Nat.lt_of_le_of_lt (ES es hes) (by decide)) (λy hy H6 Q' s6 q=>?_) (λy hy _ H6 Q' s6 q=>?_) λD H6 hD s6 hd=>?_
   ·obtain⟨e,he,rfl⟩:=List.mem_map.mp hy;have hsz:=(stp e he).1;walk_at"rd";refine⟨e,_,_,rfl,rfl,Nat.le_trans (show e.length≤100 from(oks e he).1) (by decide),c6 (j:=0) (v:=e.cps[0]) (by rw[Array.getElem?_toList];exact Array.getElem?_eq_getElem hsz),?_⟩
    walk_at"rd";refine⟨_,rfl,rfl,?_⟩;walk_at"rd";have ho:nh e=((e.cps[0]:Nat):Int):=by unfold nh;rw[Array.getD_eq_getD_getElem?,Array.getElem?_eq_getElem hsz];rfl
    have q6:Q' (decide (nh e=pk r n)) H6:=q H6 (aE.refl _);rw[ho]at q6;exact q6
   ·obtain⟨e,he,rfl⟩:=List.mem_map.mp hy;walk_at"rd";exact⟨e,rfl,Nat.le_trans (show e.length≤100 from(oks e he).1) (by decide),q H6 (aE.refl _)⟩
   ·have S6:=S5.same s6;have hd':H6 D=some (.lst ((fL (pk r n) es).map V.str)):=by
     rw[hd];unfold fL
     congr 2
     rw[List.filter_map,List.map_map,List.map_map];rfl
    walk_at"sd";refine⟨Nat.zero_le _,λp7 hp7=>?_⟩;have s7:=ao (o:=.lst []) hp7;have S7:=S6.same s7;have ck:∀e∈fL (pk r n) es,PyData.strOk e=true:=by
     intro e he
     by_cases hc:fL (pk r n) es=[]
     ·rw[hc]at he;cases he
     ·obtain⟨e0,h1,h2⟩:=tV hc;have:=(stp e0 h1).2.2;rw[h2]at this;exact(Cf _ this e he).2
    refine GX (l:=fL (pk r n) es) (m:=[]) (SqL.of (s7 _ _ hd')) (SqL.of af) ck (by decide) ?_
    walk_at"sd";refine⟨_,x,r,tm,_,rfl,S7,?_⟩;obtain⟨f',rfl⟩:∃f',f=f'+1:=⟨f-1,by omega⟩
    have eg2:=eg;unfold jx at eg2;rw[if_neg hne]at eg2;have fz:Fr x.F H (upd H6 p7 (.lst [])):=f3.trans (Fr.of (((s4.trans s5).trans s6).trans s7))
    by_cases hc:fL (pk r n) es=[]
    ·rw[decide_eq_true hc];rw[if_pos hc]at eg2;rw[eg2]at k;exactλH8 dx h8 f8=>k H8 dx h8 (fz.trans f8)
    ·rw[decide_eq_false hc];rw[if_neg hc]at eg2;obtain⟨e0,h1,h2⟩:=tV hc;have m1:=(stp e0 h1).2.2;have m2:=ER es hes hne e0 h1;rw[h2]at m1 m2;have hlt:n<r.length:=mX (z:=nh e0) (stp e0 h1).2.1 (decide_eq_true h2.symm);intro H8 S8 f8;have s67:H8 D=some (.lst ((fL (pk r n) es).map V.str)):=f8 _ _ (s7 _ _ hd') (by
      rintro(z|z|z)
      ·obtain⟨d0,h0⟩:=S5.self;exact absurd hD (by rw[z,h0];simp)
      ·exact absurd hD (by rw[z,S5.aV];simp)
      ·obtain⟨as,h0,_⟩:=S5.toks;exact absurd hD (by rw[z,h0];simp))
     exact⟨_,m2,n+1,f',_,D,_,rfl,rfl,S8,s67,m1,by omega,by omega,hlt,eg2,fz.trans f8⟩
  ·have he:es=[("":Str)]:=by simpa using hb
   subst he;obtain⟨f',rfl⟩:∃f',f=f'+1:=⟨f-1,by omega⟩
   unfold jx at eg;rw[if_pos rfl]at eg;rw[eg]at k;walk_at"sd";exact⟨7,st.place,x,r,tm,_,rfl,S4,O.toks,λH5 S5 f5=>k H5 S5 ((f3.trans (Fr.of s4)).trans f5)⟩
theorem lr(T:Txt K mg c):bU P w K mg base c.Scanner "take_in_text" ["self"] 6 (spM c (λr _ st=>vW r st) λr _ st=>Ok r st∧st.place<r.length):=by
 refine T.gi.has (k:=5) fi (λvs H Q E h=>?_) (λfa cdv A outer sh0 H vs Q E hr h=>?_)
 ·obtain⟨x,r,tm,st,rfl,_⟩:=h;rfl
 ·obtain⟨x,r,tm,st,rfl,S,⟨O,hl⟩,k⟩:=h;have k:Aft c x r tm H (vW r st) (λ_ H'=>Q .non H') E:=k;unfold vW at k;refine⟨_,(ag (aI (i:=1) fi.nd rfl (Or.inl rfl) (pm0 (aL T) hr nox (pv 0))) (ah (aP (az bh (pv 1) (pg T.yX) (aB _)) (ah (ax (pm0 (kN T) hr aJ (pv 0)))) (ah (aP (az bh (pv 1) (pg T.iN) (aB _)) (ah (ax (pm0 (ei T) hr aJ (pv 0)))) (ah (ax (pm0 (dP T) hr nox (pv 0))))))))),?_⟩
  try dsimp only[aM]
  walk_at"sd";refine⟨x,r,tm,st,rfl,S,λH1 s1=>?_⟩;have S1:=S.same s1;have k1:=k.from (Fr.of s1);walk_at"sd"
  ·rename_i hb;rw[decide_eq_true_eq]at hb;rw[if_pos hb]at k1;exact⟨x,r,tm,st,rfl,S1,⟨O,hl⟩,k1⟩
  ·rename_i hb hb2;rw[decide_eq_false_iff_not]at hb;rw[decide_eq_true_eq]at hb2;rw[if_neg hb,if_pos hb2]at k1;exact⟨x,r,tm,st,rfl,S1,⟨O,hl⟩,k1⟩
  ·rename_i hb hb2;rw[decide_eq_false_iff_not]at hb hb2;rw[if_neg hb,if_neg hb2]at k1;exact⟨x,r,tm,st,rfl,S1,O,k1⟩
theorem kO(T:Txt K mg c):bU P w K mg base c.Scanner "take_in_value" ["self"] 5 (spM c (λr _ st=>AX r st) λr _ st=>Ok r st∧st.place<r.length):=by
 refine T.fD.has (k:=4) eI (λvs H Q E h=>?_) (λfa cdv A outer sh0 H vs Q E hr h=>?_)
 ·obtain⟨x,r,tm,st,rfl,_⟩:=h;rfl
 ·obtain⟨x,r,tm,st,rfl,S,⟨O,hl⟩,k⟩:=h;have k:Aft c x r tm H (AX r st) (λ_ H'=>Q .non H') E:=k;unfold AX at k;refine⟨_,(ag (aI (i:=1) eI.nd rfl (Or.inl rfl) (pm0 (aL T) hr nox (pv 0))) (ah (aP (az bh (pv 1) (pf (rM T) hr nox (aa (ak (pv 0) rfl) ai)) (aB _)) (ag (bN (pv 0) aA gk) (ah (aT (pv 0) (pg T.jT) rfl))) (ah (aP (az bh (pv 1) (pg T.iN) (aB _)) (ah (ax (pm0 (ei T) hr aJ (pv 0)))) (ah (aP (az bh (pv 1) (pg T.yX) (aB _)) (ah (yn (hZ T) hr oZ (aa (ak (pv 0) rfl) ai))) (ah (ax (pm0 (dP T) hr nox (pv 0))))))))))),?_⟩
  try dsimp only[aM]
  walk_at"sd";refine⟨x,r,tm,st,rfl,S,λH1 s1=>?_⟩;have S1:=S.same s1;walk_at"sd";refine Je λH2 s2=>?_;have S2:=S1.same s2;have k2:=k.from (Fr.of (s1.trans s2));walk_at"sd"
  ·rename_i hb;rw[decide_eq_true_eq]at hb;rw[if_pos hb]at k2;refine mK T S2 rfl λH3 S3 f3=>?_;walk_at"sd";exact uV T S3 λH4 S4 f4=>k2 H4 S4 (f3.trans f4)
  ·rename_i hb hb2;rw[decide_eq_false_iff_not]at hb;rw[decide_eq_true_eq]at hb2;rw[if_neg hb,if_pos hb2]at k2;exact⟨x,r,tm,st,rfl,S2,⟨O,hl⟩,k2⟩
  ·rename_i hb hb2 hb3;rw[decide_eq_false_iff_not]at hb hb2;rw[decide_eq_true_eq]at hb3;rw[if_neg hb,if_neg hb2,if_pos hb3]at k2;exact o6 (v:=.int st.place) (λH' dx h s=>k2 H' dx h (Fr.of s)) λQ q=>lW T S2 rfl q
  ·rename_i hb hb2 hb3;rw[decide_eq_false_iff_not]at hb hb2 hb3;rw[if_neg hb,if_neg hb2,if_neg hb3]at k2;exact⟨x,r,tm,st,rfl,S2,O,k2⟩
theorem nj(T:Txt K mg c):bU P w K mg base c.Scanner "take_piece" ["self"] 7 (spM c iV λr _ st=>Ok r st∧st.place<r.length):=by
 refine T.iF.has (k:=6) m7 (λvs H Q E h=>?_) (λfa cdv A outer sh0 H vs Q E hr h=>?_)
 ·obtain⟨x,r,tm,st,rfl,_⟩:=h;rfl
 ·obtain⟨x,r,tm,st,rfl,S,⟨O,hl⟩,k⟩:=h;unfold iV at k;refine⟨_,(ah (aP (tD (dk (ak (pv 0) rfl)) (o7 (az bh (pm0 (aL T) hr nox (pv 0)) (pg T.iW) (aB _)))).pt (ah (ax (pm0 (mn T) hr aJ (pv 0)))) (ah (aP (az bh (ak (pv 0) rfl) (pg T.rf) (aB _)) (ah (ax (pm0 (lr T) hr aJ (pv 0)))) (ah (aP (dk (pf (oo T) hr nox (aa (ak (pv 0) rfl) ai))) (ah (ax (pm0 (kO T) hr aJ (pv 0)))) (ah (ax (pm0 (mm T) hr aJ (pv 0)))))))))),?_⟩
  try dsimp only[aM]
  cases tm with
  |true=>
   walk_at"sd";refine⟨x,r,true,st,rfl,S,λH1 s1=>?_⟩;have S1:=S.same s1;have k1:=k.from (Fr.of s1);rw[Bool.true_and]at k1;walk_at"sd"
   ·rename_i hb;rw[if_pos hb]at k1;exact⟨x,r,true,st,rfl,S1,⟨O,hl⟩,k1⟩
   ·rename_i hb hb2;rw[if_neg (by rw[hb];exact Bool.false_ne_true)]at k1
    rw[decide_eq_true_eq]at hb2;rw[if_pos hb2]at k1;exact⟨x,r,true,st,rfl,S1,⟨O,hl⟩,k1⟩
   ·rename_i hb hb2;rw[if_neg (by rw[hb];exact Bool.false_ne_true)]at k1
    rw[decide_eq_false_iff_not]at hb2;rw[if_neg hb2]at k1;refine c_I λH2 s2=>?_;have S2:=S1.same s2;have k2:=k1.from (Fr.of s2);walk_at"sd"
    ·rename_i hb3;rw[if_pos hb3]at k2;exact⟨x,r,true,st,rfl,S2,⟨O,hl⟩,k2⟩
    ·rename_i hb3;rw[if_neg (by rw[hb3];exact Bool.false_ne_true)]at k2
     exact⟨x,r,true,st,rfl,S2,O,k2⟩
  |false=>
   have k1:=k;rw[Bool.false_and,if_neg Bool.false_ne_true]at k1;walk_at"sd"
   ·rename_i hb2;rw[decide_eq_true_eq]at hb2;rw[if_pos hb2]at k1;exact⟨x,r,false,st,rfl,S,⟨O,hl⟩,k1⟩
   ·rename_i hb2;rw[decide_eq_false_iff_not]at hb2;rw[if_neg hb2]at k1;refine c_I λH2 s2=>?_;have S2:=S.same s2;have k2:=k1.from (Fr.of s2);walk_at"sd"
    ·rename_i hb3;rw[if_pos hb3]at k2;exact⟨x,r,false,st,rfl,S2,⟨O,hl⟩,k2⟩
    ·rename_i hb3;rw[if_neg (by rw[hb3];exact Bool.false_ne_true)]at k2
     exact⟨x,r,false,st,rfl,S2,O,k2⟩
def Kv(c:Cs)(x:SA)(H:Hp)(res:Except Nat (List Tok))(Q:VK)(E:XK):Prop:=match res with
 |.ok ts=>∀H' as,Fr x.F H H'→H' x.ta=some (.lst (as.map V.ref))→F2 (λa t=>xZ c H' a t) as ts→Q (.ref x.ta) H'
 |.error k=>∀H' dx,H' dx=some (.xd [(("place":Str),.int (k:Nat))])→Fr x.F H H'→E (.ref c.Fault) (some dx) H'
def Hv(c:Cs):Sp:=λvs H Q E=>∃x r tm,vs=[.ref x.p]∧a6 c H x r tm ⟨0,1,[],[]⟩∧r.length≤5000∧Kv c x H (eG r tm) Q E
theorem mO(T:Txt K mg c):bU P w K mg base c.Scanner "scan" ["self"] 8 (Hv c):=by
 refine T.oz.has (k:=7) uJ (λvs H Q E h=>?_) (λfa cdv A outer sh0 H vs Q E hr h=>?_)
 ·obtain⟨x,r,tm,rfl,_⟩:=h;rfl
 ·obtain⟨x,r,tm,rfl,S,hz,k⟩:=h;unfold eG at k
  generalize hG:cp r tm (r.length+1) ⟨0,1,[],[]⟩=G at k
  refine⟨_,(ag (lh PassesOwn.leaving (az vL (ak (pv 0) rfl) (aK aD (by rfl) T.b8 PySem.boot_len (aa (ak (pv 0) rfl) ai)) (aB _)) (ah (ax (pm0 (nj T) hr aJ (pv 0))))) (ag (aP (ue (az Eh (ak (pv 0) rfl) (pg T.rf) (aB _)) (qL (az (yu hr.units) (ak (pv 0) rfl) (aU ai) (aB _)))).pt (ah (yn (hZ T) hr oZ (aa (ak (pv 0) rfl) ai))) aO) (ah (ay (ak (pv 0) rfl))))),?_⟩
  try dsimp only[aM]
  refine aS ?_;refine⟨λm σ' H'=>∃(f:Nat)(st:SS),σ'=[some (.ref x.p)]∧m=r.length-st.place∧a6 c H' x r tm st∧Ok r st∧r.length-st.place<f∧G=cp r tm f st∧Fr x.F H H',
   ⟨_,r.length+1,_,rfl,rfl,S,⟨Nat.zero_le _,Nat.zero_le _,Nat.zero_le _,hz⟩,by simp,hG.symm,Fr.refl _⟩,?_⟩
  rintro m σ' H1 ⟨f,st,rfl,rfl,S1,O1,hf,eg,f1⟩;obtain⟨f',rfl⟩:∃f',f=f'+1:=⟨f-1,by omega⟩
  unfold cp at eg;walk_at"sd";refine⟨_,_,rfl,.inl (SqL.of S1.row),?_⟩;rw[List.length_map];walk_at"sd"
  ·rename_i hb;rw[decide_eq_true_eq]at hb;have hb:st.place<r.length:=by omega
   rw[if_pos hb]at eg;refine⟨_,λσ' H' h=>h,?_⟩;walk_at"sd";refine⟨x,r,tm,st,rfl,S1,⟨O1,hb⟩,?_⟩;cases hp:iV r tm st with
   |error n=>
    rw[hp]at eg;rw[eg]at k;exactλH2 dx h2 f2=>k H2 dx h2 (f1.trans f2)
   |ok s2=>
    rw[hp]at eg;obtain⟨O2,l2⟩:=xx O1 hb hp;exactλH2 S2 f2=>⟨r.length-s2.place,by omega,f',s2,rfl,rfl,S2,O2,by omega,eg,f1.trans f2⟩
  ·rename_i hb hk;rw[decide_eq_false_iff_not]at hb;have hb:¬st.place<r.length:=by omega
   rw[if_neg hb]at eg;have hk:st.kind≠1:=by simpa using hk
   rw[if_pos (.inl hk)]at eg;rw[eg]at k;exact o6 (v:=.int st.place) (λH' dx h s=>k H' dx h (f1.trans (Fr.of s))) λQ q=>lW T S1 rfl q
  ·rename_i hb hk;rw[decide_eq_false_iff_not]at hb;have hb:¬st.place<r.length:=by omega
   rw[if_neg hb]at eg;have hk:st.kind=1:=by simpa using hk
   refine⟨Nat.zero_le _,λp hp=>?_⟩;have s2:=ao (o:=.lst []) hp;have S2:=S1.same s2;refine GY (l:=st.aV) (m:=[]) (SqL.of S2.aV) (SqL.of af) ?_;walk_at"sd"
   ·rename_i hs;have hs:st.aV≠[]:=by simpa using hs
    rw[if_pos (.inr hs)]at eg;rw[eg]at k;exact o6 (v:=.int st.place) (λH' dx h s=>k H' dx h (f1.trans (Fr.of (s2.trans s)))) λQ q=>lW T S2 rfl q
   ·rename_i hs;have hs:st.aV=[]:=by simpa using hs
    rw[if_neg (by rintro(z|z);exact z hk;exact z hs)]at eg
    rw[eg]at k;obtain⟨as,h1,h2⟩:=S2.toks;exact k _ as (f1.trans (Fr.of s2)) h1 h2
def Kw(c:Cs)(H:Hp)(res:Except Nat (List Tok))(Q:VK)(E:XK):Prop:=match res with
 |.ok ts=>∀H' l as,aE H H'→H l=none→H' l=some (.lst (as.map V.ref))→F2 (λa t=>xZ c H' a t) as ts→Q (.ref l) H'
 |.error k=>∀H' dx,H' dx=some (.xd [(("place":Str),.int (k:Nat))])→aE H H'→E (.ref c.Fault) (some dx) H'
def JD(c:Cs)(tm:Bool):Sp:=λvs H Q E=>∃ra r,vs=[.ref ra]∧H ra=some (.lst (r.map V.int))∧r.length≤5000∧Kw c H (eG r tm) Q E
theorem Kq{H H1:Hp}{x:SA}{res:Except Nat (List Tok)}{Q:VK}{E:XK}(k:Kw c H res Q E)(s:aE H H1)(n1:H x.p=none)(n2:H x.sa=none)(n3:H x.ta=none):Kv c x H1 res Q E:=by
 have g:∀b o,H b=some o→¬x.F b:=λb o e z=>by
  rcases z with z|z|z
  ·rw[z,n1]at e;cases e
  ·rw[z,n2]at e;cases e
  ·rw[z,n3]at e;cases e
 cases res with
 |ok ts=>exactλH' as f h1 h2=>k H' x.ta as (Fr.same s f g) n3 h1 h2
 |error n=>exactλH' dx h f=>k H' dx h (Fr.same s f g)
theorem tG(T:Txt K mg c):eU P w K mg base "scan_template" ["template"] 9 (JD c true):=by
 refine T.mS.has (k:=8) sY (λvs H Q E h=>?_) (λfa cdv A outer sh0 H vs Q E hr h=>?_)
 ·obtain⟨ra,r,rfl,_⟩:=h;rfl
 ·obtain⟨ra,r,rfl,hr0,hz,k⟩:=h;refine⟨_,(ah (ay (pm0 (mO T) hr aJ (pmk (mP T) hr nox (aa (pv 0) (aa vI ai)))))),?_⟩
  try dsimp only[aM]
  walk_at"rd";intro a d ha hd nd;refine⟨a,d,ra,upd H d (.own a),true,r,rfl,rfl,by rw[ae nd.symm];exact ha,by rw[ae (aw hr0 hd)];exact hr0,λH' sa ta s1 h1 h2 S=>?_⟩
  have s0:aE H H':=(ao hd).trans s1;refine⟨rfl,?_⟩;obtain⟨dx,hx⟩:=S.self;refine rb hx ?_ rfl;walk_at"rd";exact⟨⟨a,ra,sa,ta⟩,r,true,rfl,S,hz,Kq k s0 ha ((ao hd).free h1) ((ao hd).free h2)⟩
theorem oj(T:Txt K mg c):eU P w K mg base "scan_markup" ["markup"] 9 (JD c false):=by
 refine T.qp.has (k:=8) vq (λvs H Q E h=>?_) (λfa cdv A outer sh0 H vs Q E hr h=>?_)
 ·obtain⟨ra,r,rfl,_⟩:=h;rfl
 ·obtain⟨ra,r,rfl,hr0,hz,k⟩:=h;refine⟨_,(ah (ay (pm0 (mO T) hr aJ (pmk (mP T) hr nox (aa (pv 0) (aa vI ai)))))),?_⟩
  try dsimp only[aM]
  walk_at"rd";intro a d ha hd nd;refine⟨a,d,ra,upd H d (.own a),false,r,rfl,rfl,by rw[ae nd.symm];exact ha,by rw[ae (aw hr0 hd)];exact hr0,λH' sa ta s1 h1 h2 S=>?_⟩
  have s0:aE H H':=(ao hd).trans s1;refine⟨rfl,?_⟩;obtain⟨dx,hx⟩:=S.self;refine rb hx ?_ rfl;walk_at"rd";exact⟨⟨a,ra,sa,ta⟩,r,false,rfl,S,hz,Kq k s0 ha ((ao hd).free h1) ((ao hd).free h2)⟩
theorem F2.kU{α β:Type}{R:α→β→Prop}{P:α→Prop}{l:List α}{m:List β}(h:F2 R l m)(hp:∀a∈l,P a):F2 (λa b=>R a b∧P a) l m:=by
 induction h with
 |nil=>exact .nil
 |cons x _ ih=>exact .cons ⟨x,hp _ List.mem_cons_self⟩ (ih λa ha=>hp a (List.mem_cons_of_mem _ ha))
theorem Gx(xs:List V)(b e:Nat):wx xs (some (b:Int)) (some (e:Int))=(xs.drop b).take (e-b):=by
 unfold wx;rw[HT.yj,HT.yj];rcases Nat.le_total b xs.length with h|h
 ·rw[Nat.min_eq_left h];rcases Nat.le_total e xs.length with h2|h2
  ·rw[Nat.min_eq_left h2]
  ·rw[Nat.min_eq_right h2,List.take_of_length_le (by rw[List.length_drop];omega),List.take_of_length_le (by rw[List.length_drop];omega)]
 ·rw[Nat.min_eq_right h,List.drop_length,List.drop_eq_nil_of_le h,List.take_nil,List.take_nil]
theorem oN(l:List Int)(b e:Nat):wx (l.map V.int) (some (b:Int)) (some (e:Int))=((l.drop b).take (e-b)).map V.int:=by
 rw[Gx,List.map_take,List.map_drop]
def sub(r:List Int)(b e:Nat):List Int:=(r.drop b).take (e-b)
theorem sub_len(r:List Int)(b e:Nat):(sub r b e).length≤r.length:=by
 unfold sub;rw[List.length_take,List.length_drop];omega
abbrev Thg:=Int×List Int
def mj(acc:List Thg)(kind:Int):List Thg:=if kind=1∧(acc=[]∨(acc.getLast?.map (·.1))≠some 1)then acc++[(1,[])]else acc
def kY(r:List Int)(acc:List Thg)(t:Tok):Option (List Thg):=
 if([6,7].contains t.aZ)=false then some (acc++[(t.aZ,sub r t.beg t.fin)])
 else match(mj acc t.kind).getLast?,(if t.aZ=7 then nW (sub r t.beg t.fin)else(sub r t.beg t.fin).head?)with
  |some x,some b=>some ((mj acc t.kind).dropLast++[(x.1,x.2++[b])])
  |_,_=>none
def told(r:List Int)(ts:List Tok):Option (List Thg):=ts.foldl (λo t=>o.bind λacc=>kY r acc t) (some [])
theorem sV(r:List Int)(ts:List Tok)(t:Tok):told r (ts++[t])=(told r ts).bind λacc=>kY r acc t:=by
 unfold told;rw[List.foldl_append];rfl
theorem Cz(r:List Int)(ts:List Tok):ts.foldl (λo t=>o.bind λacc=>kY r acc t) none=none:=by
 induction ts with
 |nil=>rfl
 |cons t ts ih=>rw[List.foldl_cons];exact ih
theorem Cy{r:List Int}{ts:List Tok}{L:List Thg}(h:told r ts=some L)(i:Nat):∃acc,told r (ts.take i)=some acc:=by
 cases e:told r (ts.take i)with
 |some acc=>exact⟨acc,rfl⟩
 |none=>
  rw[←List.take_append_drop i ts]at h;unfold told at h e;rw[List.foldl_append,e,Cz]at h;cases h
theorem vp{r:List Int}{tm:Bool}:∀{f:Nat}{st:SS}{ts:List Tok},Ok r st→cp r tm f st=.ok ts→ts.length≤r.length
 |0,_,_,_,h=>by cases h
 |f+1,st,ts,O,h=>by
  unfold cp at h
  split at h
  ·rename_i hl;obtain⟨s1,h1,h2⟩:=dA h;exact vp (xx O hl h1).ok h2
  ·split at h
   ·cases h
   ·injection h with h;subst h;exact Nat.le_trans O.few O.le
theorem oX{r:List Int}{tm:Bool}{ts:List Tok}(hz:r.length≤5000)(h:eG r tm=.ok ts):ts.length≤r.length:=
 vp ⟨Nat.zero_le _,Nat.zero_le _,Nat.zero_le _,hz⟩ h
def yd(c:Cs):Sp:=λvs H Q _=>∃(a dx:Addr)(H0:Hp)(v0 v1:V),vs=[.ref a,v0,v1]∧H=upd H0 a (.ins c.Thing dx [])∧Q .non (upd H0 a (.ins c.Thing dx (pw v0 v1)))
theorem p9(T:Txt K mg c):sM P w K mg base c.Thing "Thing" ["self","what","row"] 1 (yd c):=by
 refine T.ph.has (k:=0) wK (λvs H Q E h=>?_) (λfa cdv A outer sh0 H vs Q E hr h=>?_)
 ·obtain⟨a,dx,H0,v0,v1,rfl,_⟩:=h;rfl
 ·obtain⟨a,dx,H0,v0,v1,rfl,rfl,k⟩:=h;refine⟨_,(ag (aT (pv 0) (pv 1) rfl) (ah (aT (pv 0) (pv 2) rfl))),?_⟩
  try dsimp only[aM]
  walk_at"rd";refine wi T.ph.cl T.rZ (by show 0<1000;decide) ?_
  walk_at"rd";refine wi T.ph.cl T.um (by show 1<1000;decide) ?_
  exact k
def pB(c:Cs)(H:Hp)(p:Addr×Addr)(t:Thg):Prop:=(∃dx,H p.1=some (.ins c.Thing dx (pw (.int t.1) (.ref p.2))))∧H p.2=some (.lst (t.2.map V.int))
structure bE(c:Cs)(H:Hp)(l:Addr)(ps:List (Addr×Addr))(L:List Thg):Prop where
 lst:H l=some (.lst (ps.map λp=>V.ref p.1))
 each:F2 (λp t=>pB c H p t) ps L
 nd:(ps.map (·.2)).Nodup
 nl:l∉ps.map (·.2)
theorem bE.same{H H':Hp}{l:Addr}{ps:List (Addr×Addr)}{L:List Thg}(h:bE c H l ps L)(s:aE H H'):bE c H' l ps L:=
 ⟨s _ _ h.lst,h.each.imp λp t⟨⟨d,h1⟩,h2⟩=>⟨⟨d,s _ _ h1⟩,s _ _ h2⟩,h.nd,h.nl⟩
theorem bE.more{H:Hp}{l a ra:Addr}{ps:List (Addr×Addr)}{L:List Thg}{t:Thg}(h:bE c H l ps L)(ht:pB c H (a,ra) t)(nr:ra∉ps.map (·.2))(nl:l≠ra):
  bE c (upd H l (.lst ((ps.map λp=>V.ref p.1)++[.ref a]))) l (ps++[(a,ra)]) (L++[t]):=by
 have hl:=h.lst;have keep:∀{p:Addr×Addr}{t:Thg},p.2≠l→pB c H p t→pB c (upd H l (.lst ((ps.map λp=>V.ref p.1)++[.ref a]))) p t:=λn⟨⟨d,h1⟩,h2⟩=>
  ⟨⟨d,by rw[ae (aF h1 hl (by intro z;cases z))];exact h1⟩,by rw[ae n];exact h2⟩
 refine⟨by rw[af,List.map_append];rfl,F2.app ?_ (.cons (keep nl.symm ht) .nil),?_,?_⟩
 ·have:=h.each.kU (P:=λp=>p.2≠l) (λp hp z=>h.nl (by rw[←z];exact List.mem_map.mpr ⟨p,hp,rfl⟩))
  exact this.imp λp t⟨h1,h2⟩=>keep h2 h1
 ·rw[List.map_append];exact yB h.nd nr
 ·rw[List.map_append];intro m;rcases List.mem_append.mp m with m|m
  ·exact h.nl m
  ·exact nl (List.mem_singleton.mp m)
theorem bE.grow{H:Hp}{l a ra:Addr}{ps:List (Addr×Addr)}{L:List Thg}{t:Thg}{b:Int}(h:bE c H l (ps++[(a,ra)]) (L++[t]))(hlen:ps.length=L.length):
  bE c (upd H ra (.lst (t.2.map V.int++[.int b]))) l (ps++[(a,ra)]) (L++[(t.1,t.2++[b])]):=by
 have hnd:=h.nd;rw[List.map_append]at hnd;have split:F2 (λp t=>pB c H p t) ps L∧pB c H (a,ra) t:=by
  have g:=h.each
  clear hnd h
  induction ps generalizing L with
  |nil=>
   cases L with
   |nil=>cases g with|cons x _=>exact⟨.nil,x⟩
   |cons _ _=>simp at hlen
  |cons p ps ih=>
   cases L with
   |nil=>simp at hlen
   |cons q L=>
    cases g with
    |cons x g=>exact⟨.cons x (ih (by simpa using hlen) g).1,(ih (by simpa using hlen) g).2⟩
 obtain⟨g1,⟨d,e1⟩,e2⟩:=split;have nra:∀p∈ps,p.2≠ra:=λp hp z=>by
  rw[List.nodup_append]at hnd;exact hnd.2.2 p.2 (List.mem_map.mpr ⟨p,hp,rfl⟩) ra (List.mem_singleton.mpr rfl) z
 have nl:l≠ra:=λz=>h.nl (by rw[List.map_append,z];exact List.mem_append_right _ List.mem_cons_self)
 refine⟨by rw[ae nl];exact h.lst,F2.app ?_ (.cons ⟨⟨d,?_⟩,?_⟩ .nil),h.nd,h.nl⟩
 ·have:=g1.kU (P:=λp=>p.2≠ra) nra;exact this.imp λp t⟨⟨⟨d,h1⟩,h2⟩,n⟩=>⟨⟨d,by rw[ae (aF h1 e2 (by intro z;cases z))];exact h1⟩,by rw[ae n];exact h2⟩
 ·show upd H ra _ a=_;rw[ae (aF e1 e2 (by intro z;cases z))];exact e1
 ·show upd H ra _ ra=_;rw[af,List.map_append];rfl
def Lj(c:Cs)(H:Hp)(r:List Int)(res:Except Nat (List Tok))(Q:VK)(E:XK):Prop:=match res with
 |.ok ts=>∃L,told r ts=some L∧∀H' l ps,aE H H'→bE c H' l ps L→Q (.ref l) H'
 |.error k=>∀H' dx,H' dx=some (.xd [(("place":Str),.int (k:Nat))])→aE H H'→E (.ref c.Fault) (some dx) H'
def Hs(c:Cs):Sp:=λvs H Q E=>∃ra r,vs=[.ref ra]∧H ra=some (.lst (r.map V.int))∧r.length≤5000∧Lj c H r (eG r false) Q E
def Few(acc:List Thg)(i:Nat):Prop:=acc.length≤i∧∀x∈acc,x.2.length≤5000+i
theorem z8{r:List Int}{acc acc':List Thg}{t:Tok}{i:Nat}(hz:r.length≤5000)(h:Few acc i)(e:kY r acc t=some acc'):Few acc' (i+1):=by
 obtain⟨h1,h2⟩:=h;unfold kY at e
 split at e
 ·injection e with e;subst e
  refine⟨by rw[List.length_append];exact Nat.succ_le_succ h1,λx hx=>?_⟩
  rcases List.mem_append.mp hx with hx|hx
  ·exact Nat.le_succ_of_le (h2 x hx)
  ·rw[List.mem_singleton.mp hx];exact Nat.le_trans (sub_len _ _ _) (by omega)
 ·split at e
  ·rename_i x b hl hb;injection e with e;subst e
   have hp:(mj acc t.kind).length≤i+1∧∀x∈mj acc t.kind,x.2.length≤5000+i:=by
    unfold mj
    split
    ·refine⟨by rw[List.length_append];exact Nat.succ_le_succ h1,λx hx=>?_⟩
     rcases List.mem_append.mp hx with hx|hx
     ·exact h2 x hx
     ·rw[List.mem_singleton.mp hx];exact Nat.zero_le _
    ·exact⟨Nat.le_succ_of_le h1,h2⟩
   have hx0:=List.mem_of_getLast? hl;have hpos:0<(mj acc t.kind).length:=List.length_pos_of_mem hx0;refine⟨by rw[List.length_append,List.length_dropLast];simp only[List.length_cons,List.length_nil];omega,λy hy=>?_⟩
   rcases List.mem_append.mp hy with hy|hy
   ·exact Nat.le_succ_of_le (hp.2 y (List.dropLast_subset _ hy))
   ·rw[List.mem_singleton.mp hy,List.length_append];exact Nat.succ_le_succ (hp.2 x hx0)
  ·cases e
theorem Ca{F:Addr→Prop}{H H':Hp}{p q:Addr}{o:HO}(f:Fr (λb=>b=q) H H')(hq:H' q=some o)(h:H' p=none):H p=none:=by
 cases e:H p with
 |none=>rfl
 |some u=>
  have n:p≠q:=λz=>by rw[z,hq]at h;cases h
  rw[f _ _ e n]at h;cases h
theorem BG{α:Type}{l:List α}{x:α}(h:l.getLast?=some x):l=l.dropLast++[x]:=by
 have hn:l≠[]:=λz=>by rw[z]at h;cases h
 have:=List.dropLast_concat_getLast hn;rw[List.getLast?_eq_some_getLast hn]at h;injection h with h
 rw[←h];exact this.symm
theorem F2.snoc{α β:Type}{R:α→β→Prop}{l:List α}{A:List β}{x:β}(h:F2 R l (A++[x])):∃l' a,l=l'++[a]∧F2 R l' A∧R a x:=by
 induction A generalizing l with
 |nil=>
  cases h with
  |cons y h=>cases h;exact⟨[],_,rfl,.nil,y⟩
 |cons z A ih=>
  cases h with
  |cons y h=>
   obtain⟨l',a,rfl,h1,h2⟩:=ih h;exact⟨_::l',a,rfl,.cons y h1,h2⟩
theorem CA(T:Txt K mg c){H3:Hp}{la ra a0 d0 pr:Addr}{ps:List (Addr×Addr)}{A:List Thg}{x:Thg}{t:Tok}{w:List Int}{b:Int}{D:Ends}(TA:bE c H3 la ps (A++[x]))
  (hrow:H3 pr=some (.lst (w.map V.int)))(htok:H3 a0=some (.ins c.Token d0 (bO (.int t.aZ) (.int t.kind) (.int t.beg) (.int t.fin))))(hb:(if t.aZ=7 then nW w else w.head?)=some b)(hz:x.2.length≤20000)
  (k:∀H4,bE c H4 la ps (A++[(x.1,x.2++[b])])→(∀q o,H3 q=some o→q∉ps.map (·.2)→H4 q=some o)→D.nx [some (.ref ra),some (.ref la),some (.ref a0),some (.ref pr)] H4):
  pO (tBM K "list" ja (jk K (tOp (CM K) (b9 1) (tUn (rU λi=>V.int (-i)) (tC (V.int 1)))) "row") (dF (tIf (xg (tOp rEq (jk K (b9 2) "what") (tC (.int 7)))) (vk (HM K) [] NoX (dF (b9 3) ij)) (tOp (CM K) (b9 3) (tC (.int 0)))) ij)) D [some (.ref ra),some (.ref la),some (.ref a0),some (.ref pr)] H3:=by
 obtain⟨ps',p,rfl,g1,⟨d,e1⟩,e2⟩:=TA.each.snoc;obtain⟨a,rw0⟩:=p;have hlen:=g1.len;refine kK (DW ?_);walk_at"rd";refine⟨_,_,_,.ref a,rfl,rfl,SqL.of TA.lst,jg (by rw[List.map_append,List.length_append];simp) (by rw[List.map_append,List.length_append];simp),?_⟩
 dsimp only;refine lZ T e1 ?_;refine tyL e2 ?_;have fin:∀H4,aE H3 H4→ja (.ref rw0) [.int b] H4 (λ_ H1=>D.nx [some (.ref ra),some (.ref la),some (.ref a0),some (.ref pr)] H1):=by
  intro H4 s4;have TA4:=TA.same s4;refine eO (s4 _ _ e2) (by rw[List.length_map];exact Nat.lt_of_le_of_lt hz (by decide)) ?_
  refine k _ (TA4.grow hlen) (λq o hq nq=>?_);rw[ae (λz=>nq (by rw[z,List.map_append];exact List.mem_append_right _ List.mem_cons_self))]
  exact s4 _ _ hq
 walk_at"rd";refine bY T htok ?_;walk_at"rd"
 ·rename_i hw;rw[decide_eq_true_eq]at hw;rw[if_pos hw]at hb;refine⟨pr,w,b,rfl,SqL.of hrow,hb,λH4 s4=>?_⟩;walk_at"rd";exact fin H4 s4
 ·rename_i hw;rw[decide_eq_false_iff_not]at hw;rw[if_neg hw]at hb;refine⟨pr,_,_,.int b,rfl,rfl,SqL.of hrow,c6 (j:=0) ?_,?_⟩
  ·cases w with
   |nil=>cases hb
   |cons z w=>cases hb;rfl
  ·walk_at"rd";exact fin H3 (aE.refl _)
theorem Dv(T:Txt K mg c){P:Program}{w:World}{base:Heap}{H:Hp}{la:Addr}{ps:List (Addr×Addr)}{acc:List Thg}{σ:L2.St}{D:Ends}(TA:bE c H la ps acc)(hσ:σ[1]?=some (some (.ref la)))(hz:acc.length≤20000)
  (k:∀H' a rr,bE c H' la (ps++[(a,rr)]) (acc++[(1,[])])→Fr (λb=>b=la) H H'→H rr=none→D.nx σ H'):
  pO (tBM K "list" ja (b9 1) (dF (t6 c.Thing (yd c) [] NoX (dF (tC (.int 1)) (dF (Fc ij) ij))) ij)) D σ H:=by
 refine kK (DW (fw hσ ?_));refine tyL TA.lst ?_;walk_at"rd";refine⟨Nat.zero_le _,λrr hrr=>?_⟩;have s1:=ao (o:=.lst []) hrr;walk_at"rd";intro a d ha hd nd;refine⟨a,d,_,_,_,rfl,rfl,rfl,?_⟩;have s2:=tf (o1:=.own a) (o2:=.ins c.Thing d (pw (.int 1) (.ref rr))) ha hd;have TA2:=TA.same (s1.trans s2);walk_at"rd";refine eO TA2.lst (by rw[List.length_map,TA.each.len];exact Nat.lt_of_le_of_lt hz (by decide)) ?_
 have nrr:rr∉ps.map (·.2):=λm=>by
  obtain⟨q,hq,e⟩:=List.mem_map.mp m;obtain⟨j,hj⟩:=List.getElem?_of_mem hq;obtain⟨x,hx,_,e2⟩:=TA.each.get hj;rw[e,hrr]at e2;cases e2
 refine k _ a rr (TA2.more (t:=(1,[])) ⟨⟨d,af⟩,s2 _ _ af⟩ nrr λz=>by rw[←z,TA.lst]at hrr;cases hrr) ((Fr.of (s1.trans s2)).trans (ff rfl)) hrr
theorem vM(T:Txt K mg c):eU P w K mg base "told_things" ["markup"] 10 (Hs c):=by
 refine T.qo.has (k:=9) fP (λvs H Q E h=>?_) (λfa cdv A outer sh0 H vs Q E hr h=>?_)
 ·obtain⟨ra,r,rfl,_⟩:=h;rfl
 ·obtain⟨ra,r,rfl,hra,hz,k⟩:=h;refine⟨_,(ag (aI (i:=1) fP.nd rfl (Or.inl rfl) (aU ai)) (ag (qN PassesOwn.leaving rfl (j6 (pf (oj T) hr aJ (aa (pv 0) ai))) (cn (i:=2) fP.nd rfl (Or.inl rfl)) (ag (aI (i:=3) fP.nd rfl (Or.inl rfl) (iA lQ (pv 0) (dy (ak (pv 2) rfl)) (dy (ak (pv 2) rfl)))) (ah (aP (az yt (ak (pv 2) rfl) (kL (aa (pg T.mD) (aa (pg T.kx) ai))) (by with_unfolding_all rfl)) (ah (ax (dO PySem.F.plainAttrs_list PySem.F.slot_list_append PySem.F.type_list_append bq (pv 1) (aa (pmk (p9 T) hr nox (aa (ak (pv 2) rfl) (aa (pv 3) ai))) ai)))) (ag (aP (tD (az bh (ak (pv 2) rfl) (pg T.rf) (aB _)) (o7 (ue (az (rK hr.x9) (pv 1) (aU ai) (aB _)) (qL (az Eh (ak (dz bD (pv 1) (dN cf aA) (λ_ _=>rfl)) rfl) (pg T.oQ) (aB _)))).pt)).pt (ah (ax (dO PySem.F.plainAttrs_list PySem.F.slot_list_append PySem.F.type_list_append bq (pv 1) (aa (pmk (p9 T) hr nox (aa (pg T.oQ) (aa (aU ai) ai))) ai)))) aO) (ah (ax (dO PySem.F.plainAttrs_list PySem.F.slot_list_append PySem.F.type_list_append bq (ak (dz bD (pv 1) (dN cf aA) (λ_ _=>rfl)) rfl) (aa (og (az bh (ak (pv 2) rfl) (pg T.kx) (aB _)) (pf (tH T) hr nox (aa (pv 3) ai)) (dz bD (pv 3) aA (λ_ _=>rfl))) ai))))))))) (ah (ay (pv 1))))),?_⟩
  try dsimp only[aM]
  walk_at"rd";refine⟨Nat.zero_le _,λla hla=>?_⟩;have s0:=ao (o:=.lst []) hla;walk_at"rd";refine GZ (BL ?_);walk_at"rd";refine⟨ra,r,rfl,s0 _ _ hra,hz,?_⟩;cases hsc:eG r false with
  |error n=>
   rw[hsc]at k;exactλH' dx h s=>k H' dx h (s0.trans s)
  |ok ts=>
   rw[hsc]at k;obtain⟨L,hL,k⟩:=k;have hts:=oX hz hsc;intro H1 l as s1 hl h1 h2;have nl:l≠la:=λz=>by rw[z,af]at hl;cases hl
   have hla1:=s1 _ _ af;refine⟨l,rfl,⟨_,SqL.of h1⟩,wc (K:=K) (a:=l) (xs:=as.map V.ref) (λi σ H'=>∃v2 v3,σ=[some (.ref ra),some (.ref la),v2,v3]∧Fr (λb=>b=la) H1 H'∧∃acc ps,told r (ts.take i)=some acc∧Few acc i∧bE c H' la ps acc∧∀p∈ps,H1 p.2=none)
    ⟨none,none,rfl,Fr.refl _,[],[],rfl,⟨Nat.le_refl _,λ_ h=>nomatch h⟩,⟨hla1,.nil,List.nodup_nil,λh=>nomatch h⟩,λ_ h=>nomatch h⟩ (λi σ H' _⟨_,_,_,f,_⟩=>SqL.of (f _ _ h1 nl)) ?_ ?_⟩
   ·rintro i y σ H2 hi ⟨v2,v3,rfl,f2,acc,ps,hacc,few,TA,fr⟩;rw[List.getElem?_map]at hi;obtain⟨a0,ha0,rfl⟩:=Option.map_eq_some_iff.mp hi;obtain⟨t,ht,d0,htk⟩:=h2.get ha0;have htok:H2 a0=some (.ins c.Token d0 (bO (.int t.aZ) (.int t.kind) (.int t.beg) (.int t.fin))):=f2 _ _ htk (aF htk hla1 (by intro z;cases z))
    obtain⟨acc',hacc'⟩:=Cy hL (i+1);have hst:kY r acc t=some acc':=by
     rw[take_snoc ht,sV,hacc]at hacc';exact hacc'
    have few':=z8 hz few hst;have hi5:i<5000:=Nat.lt_of_lt_of_le (List.getElem?_eq_some_iff.mp ht).1 (Nat.le_trans hts hz);have hra2:H2 ra=some (.lst (r.map V.int)):=f2 _ _ (s1 _ _ (s0 _ _ hra)) (aw hra hla);walk_at"rd";refine cR T htok ?_;walk_at"rd";refine i9 T htok ?_;walk_at"rd";refine⟨ra,_,rfl,SqL.of hra2,λpr hpr=>?_⟩;rw[oN];have s3:=ao (o:=.lst ((sub r t.beg t.fin).map V.int)) hpr;have npr:∀q∈ps,q.2≠pr:=λq hq z=>by
     obtain⟨j,hj⟩:=List.getElem?_of_mem hq;obtain⟨x,hx,_,e⟩:=TA.each.get hj;rw[z,hpr]at e;cases e
    have TA3:=TA.same s3;have h1pr:H1 pr=none:=Ca (F:=λ_=>False) f2 TA.lst hpr;walk_at"rd";refine bY T (s3 _ _ htok) ?_;walk_at"rd";refine⟨by show 2≤sizeLine;decide,λp4 hp4=>?_⟩
    have s4:=ao (o:=.tup [.int 6,.int 7]) hp4;refine IA (l:=[6,7]) af ?_;have s34:=s3.trans s4;have TA4:=TA.same s34;have hrow4:=s4 _ _ (af (H:=H2) (a:=pr) (o:=.lst ((sub r t.beg t.fin).map V.int)));refine bR ?_;refine cj (λhb=>?_) (λhb=>?_)
    ·
     have hb:[6,7].contains t.aZ=false:=by simpa using hb
     unfold kY at hst;rw[if_pos hb]at hst;injection hst with hst;subst hst
     walk_at"rd";refine tyL (s34 _ _ TA.lst) ?_;walk_at"rd";refine bY T (s34 _ _ htok) ?_;walk_at"rd";intro a d ha hd nd;refine⟨a,d,_,_,_,rfl,rfl,rfl,?_⟩;have s5:=tf (o1:=.own a) (o2:=.ins c.Thing d (pw (.int t.aZ) (.ref pr))) ha hd;have TA5:=TA4.same s5;walk_at"rd";refine eO TA5.lst (by rw[List.length_map,TA.each.len];exact Nat.lt_of_le_of_lt few.1 (Nat.lt_trans hi5 (by decide))) ?_
     have npr':pr∉ps.map (·.2):=λm=>by
      obtain⟨q,hq,e⟩:=List.mem_map.mp m;exact npr q hq e
     refine⟨_,_,rfl,?_,_,ps++[(a,pr)],hacc',few',TA5.more ⟨⟨d,af⟩,s5 _ _ hrow4⟩ npr' (λz=>by rw[←z,TA.lst]at hpr;cases hpr),λq hq=>?_⟩
     ·intro b o e n;rw[ae n];exact s5 _ _ (s34 _ _ (f2 _ _ e n))
     ·rcases List.mem_append.mp hq with hq|hq
      ·exact fr q hq
      ·rw[List.mem_singleton.mp hq];exact h1pr
    ·
     have hb:[6,7].contains t.aZ=true:=by rw[Bool.not_eq_false']at hb;exact hb
     unfold kY at hst;rw[if_neg (by rw[hb];simp)]at hst
     have fin:∀(H6:Hp)(ps6:List (Addr×Addr)),Fr (λb=>b=la) H1 H6→bE c H6 la ps6 (mj acc t.kind)→(∀q∈ps6,H1 q.2=none)→H6 pr=some (.lst ((sub r t.beg t.fin).map V.int))→H6 a0=some (.ins c.Token d0 (bO (.int t.aZ) (.int t.kind) (.int t.beg) (.int t.fin)))→
       ∀(D:Ends),(∀H',(∃v2 v3,([some (.ref ra),some (.ref la),some (.ref a0),some (.ref pr)]:L2.St)=[some (.ref ra),some (.ref la),v2,v3]∧Fr (λb=>b=la) H1 H'∧∃acc ps,told r (ts.take (i+1))=some acc∧Few acc (i+1)∧bE c H' la ps acc∧∀p∈ps,H1 p.2=none)→D.nx [some (.ref ra),some (.ref la),some (.ref a0),some (.ref pr)] H')→
       pO (tBM K "list" ja (jk K (tOp (CM K) (b9 1) (tUn (rU λi=>V.int (-i)) (tC (V.int 1)))) "row") (dF (tIf (xg (tOp rEq (jk K (b9 2) "what") (tC (.int 7)))) (vk (HM K) [] NoX (dF (b9 3) ij)) (tOp (CM K) (b9 3) (tC (.int 0)))) ij)) D [some (.ref ra),some (.ref la),some (.ref a0),some (.ref pr)] H6:=by
      intro H6 ps6 f6 TA6 fr6 hrow6 htok6 D hD
      split at hst
      ·rename_i x b hl hbb;injection hst with hst;subst hst
       have e6:=BG hl;rw[e6]at TA6;have hx:x.2.length≤20000:=by
        have:x∈mj acc t.kind:=List.mem_of_getLast? hl;unfold mj at this
        split at this
        ·rcases List.mem_append.mp this with m|m
         ·have:=few.2 x m;omega
         ·rw[List.mem_singleton.mp m];exact Nat.zero_le _
        ·have:=few.2 x this;omega
       refine CA T TA6 hrow6 htok6 hbb hx λH7 TA7 keep=>hD H7 ⟨_,_,rfl,?_,_,ps6,hacc',few',TA7,fr6⟩;intro b o e n;refine keep _ _ (f6 _ _ e n) λm=>?_;obtain⟨q,hq,rfl⟩:=List.mem_map.mp m;rw[fr6 q hq]at e;cases e
      ·cases hst
     have f4:Fr (λb=>b=la) H1 (upd (upd H2 pr (.lst ((sub r t.beg t.fin).map V.int))) p4 (.tup [.int 6,.int 7])):=f2.trans (Fr.of s34);refine aS ?_;refine bC ?_;refine DX ?_;refine kJ (vC ?_);refine nY ?_;refine fw rfl ?_;refine hW T (s34 _ _ htok) ?_;refine r_c ?_;refine pZ ?_;refine bR ?_;have hz20:acc.length≤20000:=by have:=few.1;omega
     have frz:∀{H5:Hp}{rr:Addr},Fr (λb=>b=la) H1 H5→H5 la≠none→H5 rr=none→H1 rr=none:=λ{H5 rr}f n h=>by
      cases e:H5 la with
      |none=>exact absurd e n
      |some o=>exact Ca (F:=λ_=>False) f e h
     have add:∀(H5:Hp),Fr (λb=>b=la) H1 H5→bE c H5 la ps acc→mj acc t.kind=acc++[(1,[])]→H5 pr=some (.lst ((sub r t.beg t.fin).map V.int))→H5 a0=some (.ins c.Token d0 (bO (.int t.aZ) (.int t.kind) (.int t.beg) (.int t.fin)))→∀(D:Ends),
       (∀H6 ps6,Fr (λb=>b=la) H1 H6→bE c H6 la ps6 (mj acc t.kind)→(∀q∈ps6,H1 q.2=none)→H6 pr=some (.lst ((sub r t.beg t.fin).map V.int))→H6 a0=some (.ins c.Token d0 (bO (.int t.aZ) (.int t.kind) (.int t.beg) (.int t.fin)))→D.nx [some (.ref ra),some (.ref la),some (.ref a0),some (.ref pr)] H6)→
       pO (tBM K "list" ja (b9 1) (dF (t6 c.Thing (yd c) [] NoX (dF (tC (.int 1)) (dF (Fc ij) ij))) ij)) D [some (.ref ra),some (.ref la),some (.ref a0),some (.ref pr)] H5:=by
      intro H5 f5 TA5 hp5 hr5 ht5 D hD;refine Dv T (P:=P) (w:=w) (base:=base) TA5 rfl hz20 λH6 a rr TA6 f6 hrr=>?_;have nla:pr≠la:=λz=>by rw[z,TA.lst]at hpr;cases hpr
      refine hD H6 _ (f5.trans f6) (by rw[hp5];exact TA6) (λq hq=>?_) (f6 _ _ hr5 nla) (f6 _ _ ht5 (aF ht5 TA5.lst (by intro z;cases z)))
      rcases List.mem_append.mp hq with hq|hq
      ·exact fr q hq
      ·rw[List.mem_singleton.mp hq];exact frz f5 (by rw[TA5.lst];simp) hrr
     refine cj (λhk=>?_) (λhk=>?_)
     ·have hk:t.kind=1:=by simpa using hk
      refine JU (kJ (vC (fw rfl (zu (jy ?_)))));refine⟨Nat.zero_le _,λp5 hp5=>?_⟩;have s5:=ao (o:=.lst []) hp5;have s35:=s34.trans s5;have TA5:=TA.same s35;have f5:=f4.trans (Fr.of s5);refine⟨la,p5,_,rfl,rfl,SqL.of TA5.lst,SqL.of af,?_⟩;refine bR ?_;refine cj (λhe=>?_) (λhe=>?_)
      ·have he:acc=[]:=by
        have h0:=TA.each.len;cases ps with
        |nil=>cases acc with
         |nil=>rfl
         |cons _ _=>simp at h0
        |cons _ _=>simp at he
       refine ite_true ?_;refine add _ f5 TA5 (by unfold mj;rw[if_pos ⟨hk,.inl he⟩]) (s5 _ _ hrow4) (s35 _ _ htok) _ λH6 ps6 q1 q2 q3 q4 q5=>?_
       refine fin H6 ps6 q1 q2 q3 q4 q5 _ λH' h=>h
      ·obtain⟨x,hx⟩:∃x,acc.getLast?=some x:=by
        cases e:acc.getLast? with
        |some x=>exact⟨x,rfl⟩
        |none=>
         have h0:=TA.each.len;rw[List.getLast?_eq_none_iff.mp e]at h0;cases ps with
         |nil=>simp at he
         |cons _ _=>simp at h0
       have TA5':=TA5;rw[BG hx]at TA5';obtain⟨ps',q,hps,g1,⟨d,e1⟩,e2⟩:=TA5'.each.snoc;refine kJ (vC (nY (vC (fw rfl (JR (r_c (r_U ?_)))))));refine⟨_,_,_,.ref q.1,rfl,rfl,SqL.of TA5.lst,jg (by rw[hps,List.map_append,List.length_append];simp) (by rw[hps,List.map_append,List.length_append];simp),?_⟩
       dsimp only;refine pX T e1 ?_;refine r_c (DV (bR ?_));refine cj (λhw=>?_) (λhw=>?_)
       ·have hw:x.1≠1:=by simpa using hw
        refine add _ f5 TA5 (by unfold mj;rw[if_pos ⟨hk,.inr (by rw[hx];simpa using hw)⟩]) (s5 _ _ hrow4) (s35 _ _ htok) _ λH6 ps6 q1 q2 q3 q4 q5=>?_
        refine fin H6 ps6 q1 q2 q3 q4 q5 _ λH' h=>h
       ·have hw:x.1=1:=by simpa using hw
        refine bw ?_;refine fin _ ps f5 (by unfold mj;rw[if_neg (by rintro⟨_,z|z⟩;rw[z]at hx;cases hx;exact z (by rw[hx];simpa using hw))];exact TA5) fr (s5 _ _ hrow4) (s35 _ _ htok) _ λH' h=>h
     ·have hk:t.kind≠1:=by simpa using hk
      refine ite_false ?_;refine bw ?_;refine fin _ ps f4 (by unfold mj;rw[if_neg (λz=>hk z.1)];exact TA4) fr hrow4 (s34 _ _ htok) _ λH' h=>h
   ·rintro σ H2 ⟨v2,v3,rfl,f2,acc,ps,hacc,few,TA,fr⟩;rw[List.length_map,h2.len,List.take_length,hL]at hacc;injection hacc with hacc;subst hacc
    walk_at"rd";exact k H2 la ps (λb o e=>f2 b o (s1 _ _ (s0 _ _ e)) (aw e hla)) TA
end
structure Pce where
 aZ:Int
 kind:Option Int
 row:List Int
 cy:Option Nat
structure PA where
 (a ra ka:Addr)
def kdV:Option Int→V
 |none=>.non
 |some i=>.int i
def ptV:Option Nat→V
 |none=>.non
 |some n=>.int (n:Int)
def mQ(q:PA)(p:Pce):List (Str×V):=c4 (.int p.aZ) (kdV p.kind) (.ref q.ra) (.ref q.ka) (ptV p.cy)
def c7(c:Cs)(H:Hp)(q:PA)(p:Pce):Prop:=(∃dx,H q.a=some (.ins c.Piece dx (mQ q p)))∧H q.ra=some (.lst (p.row.map V.int))∧H q.ka=some (.tup (p.row.map V.int))
theorem c7.same{H H':Hp}{q:PA}{p:Pce}(h:c7 c H q p)(s:aE H H'):c7 c H' q p:=by
 obtain⟨⟨d,h1⟩,h2,h3⟩:=h;exact⟨⟨d,s _ _ h1⟩,s _ _ h2,s _ _ h3⟩
def ye(c:Cs):Sp:=λvs H Q _=>∃(a dx ra:Addr)(H0:Hp)(v0 v1:V)(xs:List V),vs=[.ref a,v0,v1,.ref ra]∧H=upd H0 a (.ins c.Piece dx [])∧H0 a=none∧H0 ra=some (.lst xs)∧
 ∀H' ka,aE H0 H'→H' a=some (.ins c.Piece dx (c4 v0 v1 (.ref ra) (.ref ka) .non))→H' ka=some (.tup xs)→H0 ka=none→Q .non H'
theorem hX(T:Txt K mg c):sM P w K mg base c.Piece "Piece" ["self","what","kind","row"] 1 (ye c):=by
 refine T.d9.has (k:=0) wN (λvs H Q E h=>?_) (λfa cdv A outer sh0 H vs Q E hr h=>?_)
 ·obtain⟨a,dx,ra,H0,v0,v1,xs,rfl,_⟩:=h;rfl
 ·obtain⟨a,dx,ra,H0,v0,v1,xs,rfl,rfl,ha,hra,k⟩:=h;refine⟨_,(ag (aT (pv 0) (pv 1) rfl) (ag (aT (pv 0) (pv 2) rfl) (ag (aT (pv 0) (pv 3) rfl) (ag (aT (pv 0) (tE kS (by rfl) T.ve PyProof.Rows.boot_tuple (aa (pv 3) ai)) rfl) (ah (aT (pv 0) AK rfl)))))),?_⟩
  try dsimp only[aM]
  walk_at"rd";refine wi T.d9.cl T.r0 (by show 0<1000;decide) ?_
  walk_at"rd";refine wi T.d9.cl T.r6 (by show 1<1000;decide) ?_
  walk_at"rd";refine wi T.d9.cl T.uo (by show 2<1000;decide) ?_
  walk_at"rd";refine⟨ra,_,rfl,.inl ⟨SqL.of (by rw[ae (aw hra ha)];exact hra),λka hka=>?_⟩⟩
  have n1:ka≠a:=λz=>by rw[z,af]at hka;cases hka
  rw[ae n1]at hka;walk_at"rd";refine⟨a,_,dx,_,rfl,by rw[ae n1.symm];exact af,T.d9.cl,T.uq,by show 3<1000;decide,?_⟩
  walk_at"rd";refine⟨a,_,dx,_,rfl,af,T.d9.cl,T.iT,by show 4<1000;decide,?_⟩
  refine k _ ka (λb o e=>?_) af ?_ hka
  ·have g1:=aw e ha;have g2:=aw e hka;rw[ae g1,ae g1,ae g2,ae g1];exact e
  ·rw[ae n1,ae n1,af]
structure RA where
 (p ra la ba:Addr)
def RA.F(x:RA):Addr→Prop:=λb=>b=x.la∨b=x.ba
def dQ(n:Nat):V:=.int (n:Int)
structure eE(c:Cs)(H0 H:Hp)(x:RA)(r:List Int)(as:List PA)(ps:List Pce)(bg:List Nat):Prop where
 self:∃dx,H x.p=some (.ins c.PieceReader dx (cG (.ref x.ra) (.ref x.la) (.ref x.ba)))
 row:H x.ra=some (.lst (r.map V.int))
 lst:H x.la=some (.lst (as.map λq=>V.ref q.a))
 each:F2 (λq p=>c7 c H q p) as ps
 beg:H x.ba=some (.lst (bg.map dQ))
 nd:(as.map (·.a)).Nodup
 nr:∀q∈as,q.ra≠x.la∧q.ra≠x.ba
 base:Fr x.F H0 H
 fr:∀q∈as,H0 q.a=none
 n1:x.ra≠x.la
 n2:x.ra≠x.ba
 n3:x.la≠x.ba
theorem eE.same{H0 H H':Hp}{x:RA}{r:List Int}{as:List PA}{ps:List Pce}{bg:List Nat}(h:eE c H0 H x r as ps bg)(s:aE H H'):eE c H0 H' x r as ps bg:=by
 obtain⟨⟨dx,h1⟩,h2,h3,h4,h5,h6,h7,h8,h9,m1,m2,m3⟩:=h;exact⟨⟨dx,s _ _ h1⟩,s _ _ h2,s _ _ h3,h4.imp λq p h=>h.same s,s _ _ h5,h6,h7,h8.trans (Fr.of s),h9,m1,m2,m3⟩
theorem eE.more{H0 H:Hp}{x:RA}{r:List Int}{as:List PA}{ps:List Pce}{bg:List Nat}{q:PA}{p:Pce}(h:eE c H0 H x r as ps bg)(hp:c7 c H q p)(na:q.a∉as.map (·.a))(h0:H0 q.a=none)(m1:q.ra≠x.la)(m2:q.ra≠x.ba):
  eE c H0 (upd H x.la (.lst ((as.map λq=>V.ref q.a)++[.ref q.a]))) x r (as++[q]) (ps++[p]) bg:=by
 have hl:=h.lst;have kp:∀{O:HO}{q:PA}{p:Pce},q.ra≠x.la→c7 c H q p→c7 c (upd H x.la O) q p:=λ{O q p}n⟨⟨d,e1⟩,e2,e3⟩=>
  ⟨⟨d,by rw[ae (aF e1 hl (by intro z;cases z))];exact e1⟩,by rw[ae n];exact e2,by rw[ae (aF e3 hl (by intro z;cases z))];exact e3⟩
 obtain⟨dx,h1⟩:=h.self;refine⟨⟨dx,by rw[ae (aF h1 hl (by intro z;cases z))];exact h1⟩,by rw[ae h.n1];exact h.row,by rw[af,List.map_append];rfl,F2.app ((h.each.kU (P:=λq=>q.ra≠x.la) λq hq=>(h.nr q hq).1).imp λq p⟨e,n⟩=>kp n e) (.cons (kp m1 hp) .nil),
  by rw[ae h.n3.symm];exact h.beg,by rw[List.map_append];exact yB h.nd na,λq' hq=>?_,h.base.trans (ff (.inl rfl)),λq' hq=>?_,h.n1,h.n2,h.n3⟩
 ·rcases List.mem_append.mp hq with hq|hq
  ·exact h.nr q' hq
  ·rw[List.mem_singleton.mp hq];exact⟨m1,m2⟩
 ·rcases List.mem_append.mp hq with hq|hq
  ·exact h.fr q' hq
  ·rw[List.mem_singleton.mp hq];exact h0
theorem eE.J7{H0 H:Hp}{x:RA}{r:List Int}{as:List PA}{ps:List Pce}{bg:List Nat}(h:eE c H0 H x r as ps bg)(b:List Nat):eE c H0 (upd H x.ba (.lst (b.map dQ))) x r as ps b:=by
 have hl:=h.beg;obtain⟨dx,h1⟩:=h.self;refine⟨⟨dx,by rw[ae (aF h1 hl (by intro z;cases z))];exact h1⟩,by rw[ae h.n2];exact h.row,by rw[ae h.n3];exact h.lst,(h.each.kU (P:=λq=>q.ra≠x.ba) λq hq=>(h.nr q hq).2).imp λq p⟨⟨⟨d,e1⟩,e2,e3⟩,n⟩=>?_,
  af,h.nd,h.nr,h.base.trans (ff (.inr rfl)),h.fr,h.n1,h.n2,h.n3⟩
 exact⟨⟨d,by rw[ae (aF e1 hl (by intro z;cases z))];exact e1⟩,by rw[ae n];exact e2,by rw[ae (aF e3 hl (by intro z;cases z))];exact e3⟩
def Ax(ps:List Pce)(i n:Nat):List Pce:=match ps[i]? with
 |some p=>ps.set i {p with cy:=some n}
 |none=>ps
theorem eE.K6{H0 H:Hp}{x:RA}{r:List Int}{as:List PA}{ps:List Pce}{bg:List Nat}{i n:Nat}{q:PA}{p:Pce}{dx:Addr}(h:eE c H0 H x r as ps bg)(hq:as[i]?=some q)(hp:ps[i]?=some p):
  eE c H0 (upd H q.a (.ins c.Piece dx (mQ q {p with cy:=some n}))) x r as (Ax ps i n) bg:=by
 obtain⟨p',hp',⟨d0,e1⟩,e2,e3⟩:=h.each.get hq;have:p'=p:=Option.some.inj (hp'.symm.trans hp);subst this;obtain⟨dx1,h1⟩:=h.self;have nl:∀{b:Addr}{xs:List V},H b=some (.lst xs)→b≠q.a:=λg=>aF g e1 (by intro z;cases z)
 have nt:∀{b:Addr}{xs:List V},H b=some (.tup xs)→b≠q.a:=λg=>aF g e1 (by intro z;cases z)
 have main:∀{as:List PA}{ps:List Pce},F2 (λq p=>c7 c H q p) as ps→∀(i:Nat),(as.map (·.a)).Nodup→as[i]?=some q→ps[i]?=some p'→F2 (λq' p=>c7 c (upd H q.a (.ins c.Piece dx (mQ q {p' with cy:=some n}))) q' p) as (ps.set i {p' with cy:=some n}):=by
  intro as ps g
  induction g with
  |nil=>intro i _ h;simp at h
  |@cons a b l m hx hl ih=>
   intro i nd hq hp;have nd':(a.a::l.map (·.a)).Nodup:=nd
   rw[List.nodup_cons]at nd';cases i with
   |zero=>
    cases hq;cases hp;refine .cons ⟨⟨dx,af⟩,by rw[ae (nl hx.2.1)];exact hx.2.1,by rw[ae (nt hx.2.2)];exact hx.2.2⟩ ?_
    refine(hl.kU (P:=λq'=>q'.a≠q.a) λq' hq' z=>nd'.1 (by rw[←z];exact List.mem_map.mpr ⟨q',hq',rfl⟩)).imp λq' p⟨⟨⟨d,g1⟩,g2,g3⟩,n⟩=>?_
    exact⟨⟨d,by rw[ae n];exact g1⟩,by rw[ae (nl g2)];exact g2,by rw[ae (nt g3)];exact g3⟩
   |succ i=>
    have hm:q∈l:=List.mem_of_getElem? (show l[i]?=some q from hq);have na:a.a≠q.a:=λz=>nd'.1 (by rw[z];exact List.mem_map.mpr ⟨q,hm,rfl⟩)
    obtain⟨⟨d,g1⟩,g2,g3⟩:=hx;exact .cons ⟨⟨d,by rw[ae na];exact g1⟩,by rw[ae (nl g2)];exact g2,by rw[ae (nt g3)];exact g3⟩ (ih i nd'.2 hq hp)
 have hf:=h.fr q (List.mem_of_getElem? hq);refine⟨⟨dx1,by rw[ae (aF h1 e1 (Ne.symm (dW "template" (v:=.ref x.ra) rfl rfl)))];exact h1⟩,by rw[ae (nl h.row)];exact h.row,by rw[ae (nl h.lst)];exact h.lst,?_,by rw[ae (nl h.beg)];exact h.beg,h.nd,h.nr,λb o e n=>?_,h.fr,h.n1,h.n2,h.n3⟩
 ·unfold Ax;rw[hp];exact main h.each i h.nd hq hp
 ·rw[ae (λz=>by rw[z,hf]at e;cases e)]
  exact h.base _ _ e n
section
variable {H0 H H1:Hp}{x:RA}{r:List Int}{as:List PA}{ps:List Pce}{bg:List Nat}{σ:L2.St}{D:Ends}{Q:VK}{i:Nat}
theorem xq(T:Txt K mg c){R:V→Prop}(S:eE c H0 H x r as ps bg)(q:R (.ref x.ra)):∃a C dx fs v,V.ref x.p=.ref a∧H a=some (.ins C dx fs)∧Cls K C∧au K C "template"∧fs.lookup ("template":Str)=some v∧R v:=by
 obtain⟨dx,h⟩:=S.self;exact lb T h q
theorem iB(T:Txt K mg c){R:V→Prop}(S:eE c H0 H x r as ps bg)(q:R (.ref x.la)):∃a C dx fs v,V.ref x.p=.ref a∧H a=some (.ins C dx fs)∧Cls K C∧au K C "pieces"∧fs.lookup ("pieces":Str)=some v∧R v:=by
 obtain⟨dx,h⟩:=S.self;exact ng T h q
theorem BU(T:Txt K mg c){R:V→Prop}(S:eE c H0 H x r as ps bg)(q:R (.ref x.ba)):∃a C dx fs v,V.ref x.p=.ref a∧H a=some (.ins C dx fs)∧Cls K C∧au K C "begun"∧fs.lookup ("begun":Str)=some v∧R v:=by
 obtain⟨dx,h⟩:=S.self;exact nV T h q
theorem AL{m:Str}{sp:Sp}{E:XK}{t:TA}(S:eE c H0 H x r as ps bg)(h0:σ[i]?=some (some (.ref x.p)))(h:t σ H λvs H2=>sp (.ref x.p::(vs++[])) H2 Q E)
  (hm:∀v0 v1 v2,(cG v0 v1 v2).lookup m=none:=by intros;rfl):rk c.PieceReader m sp [] E (b9 i) t σ H Q:=by
 obtain⟨dx,hx⟩:=S.self;exact⟨_,h0,gv hx h (hm _ _ _)⟩
theorem eE.free(S:eE c H0 H x r as ps bg){a:Addr}(h:H a=none):H0 a=none∧a∉as.map (·.a)∧a≠x.la∧a≠x.ba:=by
 have n1:a≠x.la:=λz=>by rw[z,S.lst]at h;cases h
 have n2:a≠x.ba:=λz=>by rw[z,S.beg]at h;cases h
 refine⟨?_,λm=>?_,n1,n2⟩
 ·cases e:H0 a with
  |none=>rfl
  |some o=>
   rw[S.base _ _ e (by rintro(z|z);exact n1 z;exact n2 z)]at h;cases h
 ·obtain⟨q,hq,e⟩:=List.mem_map.mp m;obtain⟨j,hj⟩:=List.getElem?_of_mem hq;obtain⟨p,hp,⟨d,e2⟩,_⟩:=S.each.get hj;rw[e,h]at e2;cases e2
theorem uX{R:Addr→Hp→Prop}{pr:Addr}{row:List Int}{wh:Int}{kd:Option Int}(S:eE c H0 H1 x r as ps bg)(hrow:H1 pr=some (.lst (row.map V.int)))(m1:pr≠x.la)(m2:pr≠x.ba)
  (k:∀H2 q,eE c H0 H2 x r as ps bg→c7 c H2 q ⟨wh,kd,row,none⟩→q.a∉as.map (·.a)→H0 q.a=none→q.ra≠x.la→q.ra≠x.ba→R q.a H2):
  ∀a d,H1 a=none→H1 d=none→d≠a→ye c (.ref a::([.int wh,kdV kd,.ref pr]++[])) (upd (upd H1 d (.own a)) a (.ins c.Piece d [])) (λv H2=>v=.non∧R a H2) NoX:=by
 intro a d ha hd nd;refine⟨a,d,pr,_,_,_,row.map V.int,rfl,rfl,by rw[ae nd.symm];exact ha,by rw[ae (aw hrow hd)];exact hrow,λH2 ka s2 h1 h2 h3=>⟨rfl,?_⟩⟩
 have s12:aE H1 H2:=(ao hd).trans s2;obtain⟨f1,f2,_,_⟩:=S.free ha;exact k H2 ⟨a,pr,ka⟩ (S.same s12) ⟨⟨d,h1⟩,s12 _ _ hrow,h2⟩ f2 f1 m1 m2
end
def gz(r:List Int)(b e:Nat)(ps:List Pce):List Pce:=if b<e then ps++[⟨1,none,sub r b e,none⟩]else ps
def DI(c:Cs):Sp:=λvs H Q _=>∃(b e:Nat),∃x r as ps bg H0,vs=[.ref x.p,dQ b,dQ e]∧eE c H0 H x r as ps bg∧ps.length≤20000∧∀H' as',eE c H0 H' x r as' (gz r b e ps) bg→Q .non H'
theorem el(T:Txt K mg c):bU P w K mg base c.PieceReader "add_copied" ["self","begin","end"] 3 (DI c):=by
 refine T.eQ.has (k:=2) jU (λvs H Q E h=>?_) (λfa cdv A outer sh0 H vs Q E hr h=>?_)
 ·obtain⟨b,e,x,r,as,ps,bg,H0,rfl,_⟩:=h;rfl
 ·obtain⟨b,e,x,r,as,ps,bg,H0,rfl,S,hz,k⟩:=h;refine⟨_,(ah (aP (az vL (pv 1) (pv 2) (aB _)) (ah (ax (dO PySem.F.plainAttrs_list PySem.F.slot_list_append PySem.F.type_list_append bq (ak (pv 0) rfl) (aa (pmk (hX T) hr nox (aa (pg T.wC) (aa AK (aa (iA lQ (ak (pv 0) rfl) (dy (pv 1)) (dy (pv 2))) ai)))) ai)))) aO)),?_⟩
  try dsimp only[aM]
  unfold dQ;walk_at"rd"
  ·rename_i hb;rw[decide_eq_true_eq]at hb;have hb:b<e:=by omega
   unfold gz at k;rw[if_pos hb]at k;refine iB T S ?_;refine tyL S.lst ?_;walk_at"rd";refine xq T S ?_;walk_at"rd";refine⟨_,_,rfl,SqL.of S.row,λpr hpr=>?_⟩;rw[oN];have s1:=ao (o:=.lst ((sub r b e).map V.int)) hpr;obtain⟨_,_,m1,m2⟩:=S.free hpr;walk_at"rd";refine uX (kd:=none) (S.same s1) af m1 m2 λH2 q S2 hp n1 n2 n3 n4=>?_;walk_at"rd";exact eO S2.lst (by rw[List.length_map,S.each.len];exact Nat.lt_of_le_of_lt hz (by decide)) (k _ _ (S2.more hp n1 n2 n3 n4))
  ·rename_i hb;rw[decide_eq_false_iff_not]at hb;unfold gz at k;rw[if_neg (by omega)]at k
   exact k _ _ S
def Ay(s:Int):Int:=if s=42 then 3 else if s=33 then 5 else 4
def Kr(r:List Int)(t:Tok)(s:Int)(ps:List Pce):List Pce:=ps++[⟨Ay s,some t.kind,sub r (t.beg+2) (t.fin-1),none⟩]
def Fj(c:Cs)(pre:List Int→Tok→List Pce→List Nat→Prop)(f:List Int→Tok→List Pce→List Nat→List Pce×List Nat):Sp:=λvs H Q _=>∃x r as ps bg H0 ta da t,vs=[.ref x.p,.ref ta]∧eE c H0 H x r as ps bg∧H ta=some (.ins c.Token da (bO (.int t.aZ) (.int t.kind) (dQ t.beg) (dQ t.fin)))∧
 ps.length≤20000∧bg.length≤20000∧pre r t ps bg∧∀H' as',eE c H0 H' x r as' (f r t ps bg).1 (f r t ps bg).2→Q .non H'
def fB(r:List Int)(t:Tok)(ps:List Pce)(bg:List Nat):List Pce×List Nat:=(Kr r t (pk r (t.beg+1)) ps,bg++[ps.length])
theorem BB(r:List Int)(b e:Nat)(he:1≤e)(j:Nat):wx (r.map V.int) (some ((b:Int)+(j:Int))) (some ((e:Int)-1))=(sub r (b+j) (e-1)).map V.int:=by
 rw[show(b:Int)+(j:Int)=((b+j:Nat):Int)by omega,show(e:Int)-1=((e-1:Nat):Int)by omega,oN];rfl
theorem kQ(T:Txt K mg c):bU P w K mg base c.PieceReader "add_begin" ["self","token"] 3 (Fj c (λr t _ _=>t.beg+1<r.length∧1≤t.fin) fB):=by
 refine T.fG.has (k:=2) bt (λvs H Q E h=>?_) (λfa cdv A outer sh0 H vs Q E hr h=>?_)
 ·obtain⟨x,r,as,ps,bg,H0,ta,da,t,rfl,_⟩:=h;rfl
 ·obtain⟨x,r,as,ps,bg,H0,ta,da,t,rfl,S,ht,hz,hzb,⟨hl,hf⟩,k⟩:=h;refine⟨_,(ag (aI (i:=2) bt.nd rfl (Or.inl rfl) (dz bD (ak (pv 0) rfl) (eM iR (ak (pv 1) rfl) aA) (λ_ _=>rfl))) (ag (aI (i:=3) bt.nd rfl (Or.inl rfl) (pg T.wB)) (ag (aP (az bh (pv 2) (pg T.Bm) (aB _)) (ah (aI (i:=3) bt.nd rfl (Or.inl rfl) (pg T.yW))) (ah (aP (az bh (pv 2) (pg T.Bn) (aB _)) (ah (aI (i:=3) bt.nd rfl (Or.inl rfl) (pg T.mE))) aO))) (ag (ax (dO PySem.F.plainAttrs_list PySem.F.slot_list_append PySem.F.type_list_append bq (ak (pv 0) rfl) (aa (aK aD (by rfl) T.b8 PySem.boot_len (aa (ak (pv 0) rfl) ai)) ai))) (ah (ax (dO PySem.F.plainAttrs_list PySem.F.slot_list_append PySem.F.type_list_append bq (ak (pv 0) rfl) (aa (pmk (hX T) hr nox (aa (pv 3) (aa (ak (pv 1) rfl) (aa (iA lQ (ak (pv 0) rfl) (dy (eM iR (ak (pv 1) rfl) aA)) (dy (eM vK (ak (pv 1) rfl) aA))) ai)))) ai)))))))),?_⟩
  try dsimp only[aM]
  unfold dQ at ht;walk_at"rd";refine xq T S ?_;walk_at"rd";refine cR T ht ?_;walk_at"rd";refine⟨x.ra,_,_,.int (pk r (t.beg+1)),rfl,rfl,SqL.of S.row,?_,?_⟩
  ·rw[show(t.beg:Int)+1=((t.beg+1:Nat):Int)by omega]
   refine c6 ?_;rw[List.getElem?_map,List.getElem?_eq_getElem hl];unfold pk;rw[List.getD_eq_getElem?_getD,List.getElem?_eq_getElem hl];rfl
  have fin:∀(w:Int)(D:Ends),w=Ay (pk r (t.beg+1))→(∀σ H',Q .non H'→D.nx σ H')→Dx (pO (tBM K "list" ja (jk K (b9 0) "begun") (dF (tCB (λxs H Q=>∃p ys,xs=[.ref p]∧(SqL K H p ys∨SqT K H p ys)∧Q (.int ys.length) H) (dF (jk K (b9 0) "pieces") ij)) ij)))
    (pO (tBM K "list" ja (jk K (b9 0) "pieces") (dF (t6 c.Piece (ye c) [] NoX (dF (b9 3) (dF (jk K (b9 1) "kind") (dF (tSl (J4 K) (jk K (b9 0) "template") (By (tOp (rI0 λi j=>.int (i+j)) (jk K (b9 1) "begin") (tC (.int 2)))) (By (tOp (rI0 λi j=>.int (i-j)) (jk K (b9 1) "end") (tC (.int 1))))) ij)))) ij)))
    D [some (.ref x.p),some (.ref ta),some (.int (pk r (t.beg+1))),some (.int w)] H:=by
   intro w D hw hD;refine aS (kK (DW ?_));walk_at"rd";refine BU T S ?_;refine tyL S.beg ?_;walk_at"rd";refine iB T S ?_;walk_at"rd";refine⟨_,_,rfl,.inl (SqL.of S.lst),?_⟩;rw[List.length_map,S.each.len];walk_at"rd";refine eO S.beg (by rw[List.length_map];exact Nat.lt_of_le_of_lt hzb (by decide)) ?_
   have S1:=S.J7 (bg++[ps.length]);rw[List.map_append]at S1;have S1:eE c H0 (upd H x.ba (.lst (bg.map dQ++[.int (ps.length:Int)]))) x r as ps (bg++[ps.length]):=S1;have ht1:upd H x.ba (.lst (bg.map dQ++[.int (ps.length:Int)])) ta=some (.ins c.Token da (bO (.int t.aZ) (.int t.kind) (.int t.beg) (.int t.fin))):=by
    rw[ae (aF ht S.beg (by intro z;cases z))];exact ht
   walk_at"rd";refine iB T S1 ?_;refine tyL S1.lst ?_;walk_at"rd";refine hW T ht1 ?_;walk_at"rd";refine xq T S1 ?_;walk_at"rd";refine cR T ht1 ?_;walk_at"rd";refine i9 T ht1 ?_;walk_at"rd";refine⟨_,_,rfl,SqL.of S1.row,λpr hpr=>?_⟩;rw[show(2:Int)=((2:Nat):Int)from rfl,BB r t.beg t.fin hf 2];have s2:=ao (o:=.lst ((sub r (t.beg+2) (t.fin-1)).map V.int)) hpr;obtain⟨_,_,m1,m2⟩:=S1.free hpr;walk_at"rd";refine uX (kd:=some t.kind) (S1.same s2) af m1 m2 λH2 q S2 hp n1 n2 n3 n4=>?_;walk_at"rd";refine eO S2.lst (by rw[List.length_map,S.each.len];exact Nat.lt_of_le_of_lt hz (by decide)) (hD _ _ ?_)
   refine k _ (as++[q]) ?_;have:=S2.more hp n1 n2 n3 n4;rw[hw]at this;exact this
  refine cb ?_;refine aS ?_;refine lg (r_c ?_);refine cb ?_;refine aS (bC (br (b6 (bZ (bj rfl) eL)) ?_));refine cj (λhb=>?_) (λhb=>?_)
  ·rw[decide_eq_true_eq]at hb;refine lg (r_c ?_);exact fin 3 _ (by unfold Ay;rw[if_pos hb]) λ_ _ h=>h
  ·rw[decide_eq_false_iff_not]at hb;refine bC (br (b6 (bZ (bj rfl) eL)) ?_);refine cj (λhb2=>?_) (λhb2=>?_)
   ·rw[decide_eq_true_eq]at hb2;refine lg (r_c ?_);exact fin 5 _ (by unfold Ay;rw[if_neg hb,if_pos hb2]) λ_ _ h=>h
   ·rw[decide_eq_false_iff_not]at hb2;refine bw ?_;exact fin 4 _ (by unfold Ay;rw[if_neg hb,if_neg hb2]) λ_ _ h=>h
theorem eE.other{H0 H:Hp}{x:RA}{r:List Int}{as:List PA}{ps:List Pce}{bg:List Nat}{q:PA}{p p':Pce}{d:Addr}(S:eE c H0 H x r as ps bg)(hp:c7 c H q p)(na:q.a∉as.map (·.a))(h0:H0 q.a=none)(hr:p'.row=p.row):
  eE c H0 (upd H q.a (.ins c.Piece d (mQ q p'))) x r as ps bg∧c7 c (upd H q.a (.ins c.Piece d (mQ q p'))) q p':=by
 obtain⟨⟨d0,e1⟩,e2,e3⟩:=hp;have nl:∀{b:Addr}{xs:List V},H b=some (.lst xs)→b≠q.a:=λg=>aF g e1 (by intro z;cases z)
 have nt:∀{b:Addr}{xs:List V},H b=some (.tup xs)→b≠q.a:=λg=>aF g e1 (by intro z;cases z)
 obtain⟨dx1,h1⟩:=S.self;refine⟨⟨⟨dx1,by rw[ae (aF h1 e1 (Ne.symm (dW "template" (v:=.ref x.ra) rfl rfl)))];exact h1⟩,by rw[ae (nl S.row)];exact S.row,by rw[ae (nl S.lst)];exact S.lst,?_,by rw[ae (nl S.beg)];exact S.beg,S.nd,S.nr,λb o e n=>?_,S.fr,S.n1,S.n2,S.n3⟩,⟨d,af⟩,?_,?_⟩
 ·refine(S.each.kU (P:=λq'=>q'.a≠q.a) λq' hq' z=>na (by rw[←z];exact List.mem_map.mpr ⟨q',hq',rfl⟩)).imp λq' p⟨⟨⟨d,g1⟩,g2,g3⟩,n⟩=>?_
  exact⟨⟨d,by rw[ae n];exact g1⟩,by rw[ae (nl g2)];exact g2,by rw[ae (nt g3)];exact g3⟩
 ·rw[ae (λz=>by rw[z,h0]at e;cases e)]
  exact S.base _ _ e n
 ·rw[ae (nl e2),hr];exact e2
 ·rw[ae (nt e3),hr];exact e3
def fE(r:List Int)(t:Tok)(ps:List Pce)(bg:List Nat):List Pce×List Nat:=match bg.getLast? with
 |some pl=>(Ax ps pl ps.length++[⟨6,some t.kind,[],some pl⟩],bg.dropLast)
 |none=>(ps,bg)
theorem mr(T:Txt K mg c):bU P w K mg base c.PieceReader "add_end" ["self","token"] 3 (Fj c (λ_ _ ps bg=>∃pl,bg.getLast?=some pl∧pl<ps.length) fE):=by
 refine T.gP.has (k:=2) bW (λvs H Q E h=>?_) (λfa cdv A outer sh0 H vs Q E hr h=>?_)
 ·obtain⟨x,r,as,ps,bg,H0,ta,da,t,rfl,_⟩:=h;rfl
 ·obtain⟨x,r,as,ps,bg,H0,ta,da,t,rfl,S,ht,hz,hzb,⟨pl,hl,hlt⟩,k⟩:=h;refine⟨_,(ag (aI (i:=2) bW.nd rfl (Or.inl rfl) (vH PySem.F.plainAttrs_list PySem.F.slot_list_pop PySem.F.type_list_pop vV (ak (pv 0) rfl))) (ag (aI (i:=3) bW.nd rfl (Or.inl rfl) (dz bD (ak (pv 0) rfl) (pv 2) (λ_ _=>rfl))) (ag (aT (pv 3) (aK aD (by rfl) T.b8 PySem.boot_len (aa (ak (pv 0) rfl) ai)) rfl) (ag (aI (i:=4) bW.nd rfl (Or.inl rfl) (pmk (hX T) hr nox (aa (pg T.EX) (aa (ak (pv 1) rfl) (aa (aU ai) ai))))) (ag (aT (pv 4) (pv 2) rfl) (ah (ax (dO PySem.F.plainAttrs_list PySem.F.slot_list_append PySem.F.type_list_append bq (ak (pv 0) rfl) (aa (pv 4) ai))))))))),?_⟩
  try dsimp only[aM]
  unfold dQ at ht;unfold fE at k;rw[hl]at k;walk_at"rd";refine BU T S ?_;refine tyL S.beg ?_;refine⟨x.ba,_,dQ pl,rfl,rfl,S.beg,?_,?_⟩
  ·rw[List.length_map,List.getElem?_map,←List.getLast?_eq_getElem?,hl];rfl
  have S1:=S.J7 bg.dropLast;rw[List.map_dropLast]at S1;have ht1:upd H x.ba (.lst (bg.map dQ).dropLast) ta=some (.ins c.Token da (bO (.int t.aZ) (.int t.kind) (.int t.beg) (.int t.fin))):=by
   rw[ae (aF ht S.beg (by intro z;cases z))];exact ht
  generalize upd H x.ba (.lst (bg.map dQ).dropLast)=H1 at S1 ht1
  obtain⟨p0,hp0⟩:∃p0,ps[pl]?=some p0:=⟨_,List.getElem?_eq_getElem hlt⟩;obtain⟨q0,hq0,⟨d0,e1⟩,e2,e3⟩:=S1.each.get' hp0;walk_at"rd";refine iB T S1 ?_;walk_at"rd";refine⟨x.la,_,_,.ref q0.a,rfl,rfl,SqL.of S1.lst,c6 (j:=pl) (by rw[List.getElem?_map,hq0];rfl),?_⟩
  walk_at"rd";refine iB T S1 ?_;walk_at"rd";refine⟨_,_,rfl,.inl (SqL.of S1.lst),?_⟩;rw[List.length_map,S1.each.len];walk_at"rd";refine kW T e1 ?_;have S2:=S1.K6 (n:=ps.length) (dx:=d0) hq0 hp0;have ht2:upd H1 q0.a (.ins c.Piece d0 (mQ q0 {p0 with cy:=some ps.length})) ta=some (.ins c.Token da (bO (.int t.aZ) (.int t.kind) (.int t.beg) (.int t.fin))):=by
   rw[ae (aF ht1 e1 (Ne.symm (dW "begin" (v:=.int t.beg) rfl rfl)))];exact ht1
  change Ends.nx _ _ (upd H1 q0.a (.ins c.Piece d0 (mQ q0 {p0 with cy:=some ps.length})))
  generalize upd H1 q0.a (.ins c.Piece d0 (mQ q0 {p0 with cy:=some ps.length}))=H2 at S2 ht2
  walk_at"rd";refine hW T ht2 ?_;walk_at"rd";refine⟨Nat.zero_le _,λpr hpr=>?_⟩;have s3:=ao (o:=.lst []) hpr;obtain⟨_,_,m1,m2⟩:=S2.free hpr;walk_at"rd";refine uX (kd:=some t.kind) (row:=[]) (S2.same s3) af m1 m2 λH4 q S4 hp n1 n2 n3 n4=>?_;obtain⟨d4,g1⟩:=hp.1;walk_at"rd";refine kW T g1 ?_;obtain⟨S5,hp5⟩:=S4.other (d:=d4) (p':=⟨6,some t.kind,[],some pl⟩) hp n1 n2 rfl
  change Ends.nx _ _ (upd H4 q.a (.ins c.Piece d4 (mQ q ⟨6,some t.kind,[],some pl⟩)))
  walk_at"rd";refine iB T S5 ?_;refine tyL S5.lst ?_;walk_at"rd";exact eO S5.lst (by rw[List.length_map,S1.each.len];exact Nat.lt_of_le_of_lt hz (by decide)) (k _ _ (S5.more hp5 n1 n2 n3 n4))
def fT(r:List Int)(t:Tok)(ps:List Pce)(bg:List Nat):List Pce×List Nat:=if t.aZ=9 then(ps++[⟨2,some t.kind,sub r (t.beg+1) (t.fin-1),none⟩],bg)else if t.aZ=10 then fB r t ps bg else if t.aZ=11 then fE r t ps bg else(ps,bg)
def AH(r:List Int)(t:Tok)(ps:List Pce)(bg:List Nat):Prop:=(t.aZ=9→1≤t.fin)∧(t.aZ=10→t.beg+1<r.length∧1≤t.fin)∧(t.aZ=11→∃pl,bg.getLast?=some pl∧pl<ps.length)
theorem kP(T:Txt K mg c):bU P w K mg base c.PieceReader "add_token" ["self","token"] 4 (Fj c AH fT):=by
 refine T.fF.has (k:=3) kH (λvs H Q E h=>?_) (λfa cdv A outer sh0 H vs Q E hr h=>?_)
 ·obtain⟨x,r,as,ps,bg,H0,ta,da,t,rfl,_⟩:=h;rfl
 ·obtain⟨x,r,as,ps,bg,H0,ta,da,t,rfl,S,ht,hz,hzb,⟨g1,g2,g3⟩,k⟩:=h;refine⟨_,(ah (aP (az bh (ak (pv 1) rfl) (pg T.yY) (aB _)) (ah (ax (dO PySem.F.plainAttrs_list PySem.F.slot_list_append PySem.F.type_list_append bq (ak (pv 0) rfl) (aa (pmk (hX T) hr nox (aa (pg T.sD) (aa (ak (pv 1) rfl) (aa (iA lQ (ak (pv 0) rfl) (dy (eM iR (ak (pv 1) rfl) aA)) (dy (eM vK (ak (pv 1) rfl) aA))) ai)))) ai)))) (ah (aP (az bh (ak (pv 1) rfl) (pg T.eY) (aB _)) (ah (ax (pm (kQ T) hr nox (pv 0) (aa (pv 1) ai)))) (ah (aP (az bh (ak (pv 1) rfl) (pg T.ig) (aB _)) (ah (ax (pm (mr T) hr nox (pv 0) (aa (pv 1) ai)))) aO)))))),?_⟩
  try dsimp only[aM]
  have ht':=ht;unfold dQ at ht';unfold fT at k;obtain⟨dx0,hself⟩:=S.self;walk_at"rd";refine bY T ht' ?_;walk_at"rd"
  ·rename_i hb;rw[decide_eq_true_eq]at hb;rw[if_pos hb]at k;refine iB T S ?_;refine tyL S.lst ?_;walk_at"rd";refine hW T ht' ?_;walk_at"rd";refine xq T S ?_;walk_at"rd";refine cR T ht' ?_;walk_at"rd";refine i9 T ht' ?_;walk_at"rd";refine⟨_,_,rfl,SqL.of S.row,λpr hpr=>?_⟩;rw[show wx (r.map V.int) (some ((t.beg:Int)+1)) (some ((t.fin:Int)-1))=(sub r (t.beg+1) (t.fin-1)).map V.int from BB r t.beg t.fin (g1 hb) 1];have s2:=ao (o:=.lst ((sub r (t.beg+1) (t.fin-1)).map V.int)) hpr;obtain⟨_,_,m1,m2⟩:=S.free hpr;walk_at"rd";refine uX (kd:=some t.kind) (S.same s2) af m1 m2 λH2 q S2 hp n1 n2 n3 n4=>?_;walk_at"rd";exact eO S2.lst (by rw[List.length_map,S.each.len];exact Nat.lt_of_le_of_lt hz (by decide)) (k _ _ (S2.more hp n1 n2 n3 n4))
  ·rename_i hb;rw[decide_eq_false_iff_not]at hb;rw[if_neg hb]at k;refine bY T ht' ?_;walk_at"rd"
   ·rename_i hb2;rw[decide_eq_true_eq]at hb2;rw[if_pos hb2]at k;refine gv hself ?_ rfl;walk_at"rd";exact⟨x,r,as,ps,bg,H0,ta,da,t,rfl,S,ht,hz,hzb,g2 hb2,k⟩
   ·rename_i hb2;rw[decide_eq_false_iff_not]at hb2;rw[if_neg hb2]at k;refine bY T ht' ?_;walk_at"rd"
    ·rename_i hb3;rw[decide_eq_true_eq]at hb3;rw[if_pos hb3]at k;refine gv hself ?_ rfl;walk_at"rd";exact⟨x,r,as,ps,bg,H0,ta,da,t,rfl,S,ht,hz,hzb,g3 hb3,k⟩
    ·rename_i hb3;rw[decide_eq_false_iff_not]at hb3;rw[if_neg hb3]at k;exact k _ _ S
structure RS where
 (ps:List Pce)
 (bg:List Nat)
 (to:Nat)
noncomputable instance (r:List Int)(t:Tok)(ps:List Pce)(bg:List Nat):Decidable (AH r t ps bg):=Classical.propDecidable _
noncomputable def mN(r:List Int)(s:RS)(t:Tok):Option RS:=if[8,9,10,11].contains t.aZ=true then
  (if AH r t (gz r s.to (if t.aZ=8 then t.beg+1 else t.beg) s.ps) s.bg then some ⟨(fT r t (gz r s.to (if t.aZ=8 then t.beg+1 else t.beg) s.ps) s.bg).1,(fT r t (gz r s.to (if t.aZ=8 then t.beg+1 else t.beg) s.ps) s.bg).2,t.fin⟩else none)
 else some s
noncomputable def iz(r:List Int)(ts:List Tok):Option RS:=ts.foldl (λo t=>o.bind λs=>mN r s t) (some ⟨[],[],0⟩)
theorem mf(r:List Int)(ts:List Tok)(t:Tok):iz r (ts++[t])=(iz r ts).bind λs=>mN r s t:=by
 unfold iz;rw[List.foldl_append];rfl
theorem AG(r:List Int)(ts:List Tok):ts.foldl (λo t=>o.bind λs=>mN r s t) none=none:=by
 induction ts with
 |nil=>rfl
 |cons t ts ih=>rw[List.foldl_cons];exact ih
theorem AE{r:List Int}{ts:List Tok}{L:RS}(h:iz r ts=some L)(i:Nat):∃s,iz r (ts.take i)=some s:=by
 cases e:iz r (ts.take i)with
 |some s=>exact⟨s,rfl⟩
 |none=>
  rw[←List.take_append_drop i ts]at h;unfold iz at h e;rw[List.foldl_append,e,AG]at h;cases h
theorem DL(ps:List Pce)(i n:Nat):(Ax ps i n).length=ps.length:=by
 unfold Ax;split
 ·rw[List.length_set]
 ·rfl
theorem wF(r:List Int)(b e:Nat)(ps:List Pce):(gz r b e ps).length≤ps.length+1:=by
 unfold gz;split
 ·rw[List.length_append];exact Nat.le_refl _
 ·exact Nat.le_succ _
theorem IU(r:List Int)(t:Tok)(ps:List Pce)(bg:List Nat):(fT r t ps bg).1.length≤ps.length+1∧(fT r t ps bg).2.length≤bg.length+1:=by
 unfold fT
 split
 ·exact⟨by rw[List.length_append];exact Nat.le_refl _,Nat.le_succ _⟩
 ·split
  ·unfold fB Kr;exact⟨by rw[List.length_append];exact Nat.le_refl _,by rw[List.length_append];exact Nat.le_refl _⟩
  ·split
   ·unfold fE
    split
    ·exact⟨by rw[List.length_append,DL];exact Nat.le_refl _,by show(bg.dropLast).length≤_;rw[List.length_dropLast];omega⟩
    ·exact⟨Nat.le_succ _,Nat.le_succ _⟩
   ·exact⟨Nat.le_succ _,Nat.le_succ _⟩
theorem xn{r:List Int}{s s':RS}{t:Tok}{i:Nat}(h:s.ps.length≤2*i∧s.bg.length≤i)(e:mN r s t=some s'):s'.ps.length≤2*(i+1)∧s'.bg.length≤i+1:=by
 unfold mN at e
 by_cases hb:[8,9,10,11].contains t.aZ=true
 ·rw[if_pos hb]at e
  by_cases hpre:AH r t (gz r s.to (if t.aZ=8 then t.beg+1 else t.beg) s.ps) s.bg
  ·rw[if_pos hpre]at e;injection e with e;subst e
   have h1:=IU r t (gz r s.to (if t.aZ=8 then t.beg+1 else t.beg) s.ps) s.bg
   have h2:=wF r s.to (if t.aZ=8 then t.beg+1 else t.beg) s.ps
   dsimp only;omega
  ·rw[if_neg hpre]at e;cases e
 ·rw[if_neg hb]at e;injection e with e;subst e;omega
noncomputable def readM(r:List Int)(ts:List Tok):Option (List Pce):=(iz r ts).map λs=>gz r s.to r.length s.ps
def KJ(c:Cs):Sp:=λvs H Q _=>∃(a dx ra:Addr)(H0:Hp)(r:List Int),vs=[.ref a,.ref ra]∧H=upd H0 a (.ins c.PieceReader dx [])∧H0 a=none∧H0 ra=some (.lst (r.map V.int))∧
 ∀H' la ba,aE H0 H'→H0 la=none→H0 ba=none→eE c H' H' ⟨a,ra,la,ba⟩ r [] [] []→Q .non H'
theorem pM(T:Txt K mg c):sM P w K mg base c.PieceReader "PieceReader" ["self","template"] 1 (KJ c):=by
 refine T.b7.has (k:=0) pF (λvs H Q E h=>?_) (λfa cdv A outer sh0 H vs Q E hr h=>?_)
 ·obtain⟨a,dx,ra,H0,r,rfl,_⟩:=h;rfl
 ·obtain⟨a,dx,ra,H0,r,rfl,rfl,ha,hra,k⟩:=h;refine⟨_,(ag (aT (pv 0) (pv 1) rfl) (ag (aT (pv 0) (aU ai) rfl) (ah (aT (pv 0) (aU ai) rfl)))),?_⟩
  try dsimp only[aM]
  walk_at"rd";refine wi T.b7.cl T.gb (by show 0<1000;decide) ?_
  walk_at"rd";refine⟨Nat.zero_le _,λla hla=>?_⟩;have n1:la≠a:=λz=>by rw[z,af]at hla;cases hla
  rw[ae n1]at hla;walk_at"rd";refine⟨a,_,dx,_,rfl,by rw[ae n1.symm];exact af,T.b7.cl,T.iE,by show 1<1000;decide,?_⟩
  walk_at"rd";refine⟨Nat.zero_le _,λba hba=>?_⟩;have n2:ba≠a:=λz=>by rw[z,af]at hba;cases hba
  rw[ae n2]at hba;have n3:ba≠la:=λz=>by rw[z,af]at hba;cases hba
  rw[ae n3,ae n2]at hba;walk_at"rd";refine⟨a,_,dx,_,rfl,by rw[ae n2.symm];exact af,T.b7.cl,T.i3,by show 2<1000;decide,?_⟩
  have g:∀b o,H0 b=some o→b≠a∧b≠la∧b≠ba:=λb o e=>⟨aw e ha,aw e hla,aw e hba⟩;refine k _ la ba (λb o e=>?_) hla hba ⟨⟨dx,af⟩,?_,?_,.nil,?_,List.nodup_nil,(λ_ h=>nomatch h),Fr.refl _,(λ_ h=>nomatch h),(g _ _ hra).2.1,(g _ _ hra).2.2,n3.symm⟩
  ·obtain⟨g1,g2,g3⟩:=g b o e;rw[ae g1,ae g3,ae g1,ae g2,ae g1];exact e
  ·obtain⟨g1,g2,g3⟩:=g _ _ hra;show upd _ _ _ ra=_;rw[ae g1,ae g3,ae g1,ae g2,ae g1];exact hra
  ·show upd _ _ _ la=_;rw[ae n1,ae n3.symm,ae n1,af];rfl
  ·show upd _ _ _ ba=_;rw[ae n2,af];rfl
structure di(c:Cs)(H:Hp)(l:Addr)(as:List PA)(ps:List Pce):Prop where
 lst:H l=some (.lst (as.map λq=>V.ref q.a))
 each:F2 (λq p=>c7 c H q p) as ps
def Li(c:Cs)(x:RA)(H:Hp)(r:List Int)(res:Except Nat (List Tok))(Q:VK)(E:XK):Prop:=match res with
 |.ok ts=>∃ps,readM r ts=some ps∧∀H' as,Fr x.F H H'→di c H' x.la as ps→Q (.ref x.la) H'
 |.error k=>∀H' dx,H' dx=some (.xd [(("place":Str),.int (k:Nat))])→aE H H'→E (.ref c.Fault) (some dx) H'
def Hz(c:Cs):Sp:=λvs H Q E=>∃x r,vs=[.ref x.p]∧eE c H H x r [] [] []∧r.length≤5000∧Li c x H r (eG r true) Q E
theorem pL(T:Txt K mg c):bU P w K mg base c.PieceReader "read" ["self"] 10 (Hz c):=by
 refine T.jG.has (k:=9) bV (λvs H Q E h=>?_) (λfa cdv A outer sh0 H vs Q E hr h=>?_)
 ·obtain⟨x,r,rfl,_⟩:=h;rfl
 ·obtain⟨x,r,rfl,S,hz,k⟩:=h;refine⟨_,(ag (aI (i:=1) bV.nd rfl (Or.inl rfl) aA) (ag (qN PassesOwn.leaving rfl (j6 (pf (tG T) hr aJ (aa (ak (pv 0) rfl) ai))) (cn (i:=2) bV.nd rfl (Or.inl rfl)) (ah (aP (az fA (ak (pv 2) rfl) (kL (aa (pg T.eZ) (aa (pg T.yY) (aa (pg T.eY) (aa (pg T.ig) ai))))) (by with_unfolding_all rfl)) (ag (aI (i:=3) bV.nd rfl (Or.inl rfl) (og (az bh (ak (pv 2) rfl) (pg T.eZ) (aB _)) (eM iR (ak (pv 2) rfl) aA) (ak (pv 2) rfl))) (ag (ax (pm (el T) hr nox (pv 0) (aa (pv 1) (aa (pv 3) ai)))) (ag (ax (pm (kP T) hr nox (pv 0) (aa (pv 2) ai))) (ah (aI (i:=1) bV.nd rfl (Or.inl rfl) (ak (pv 2) rfl)))))) aO))) (ag (ax (pm (el T) hr nox (pv 0) (aa (pv 1) (aa (aK aD (by rfl) T.b8 PySem.boot_len (aa (ak (pv 0) rfl) ai)) ai)))) (ah (ay (ak (pv 0) rfl)))))),?_⟩
  try dsimp only[aM]
  walk_at"rd";refine GZ (BL ?_);walk_at"rd";refine xq T S ?_;walk_at"rd";refine⟨x.ra,r,rfl,S.row,hz,?_⟩;cases hsc:eG r true with
  |error n=>
   rw[hsc]at k;exactλH' dx h s=>k H' dx h s
  |ok ts=>
   rw[hsc]at k;obtain⟨ps,hps,k⟩:=k;have hts:=oX hz hsc;unfold readM at hps;obtain⟨L,hL,hLp⟩:=Option.map_eq_some_iff.mp hps;intro H1 l tas s1 hl h1 h2;have S1:eE c H1 H1 x r [] [] []:=by
    have:=S.same s1;exact⟨this.self,this.row,this.lst,.nil,this.beg,this.nd,this.nr,Fr.refl _,λ_ h=>(nomatch h),this.n1,this.n2,this.n3⟩
   have nl:¬x.F l:=by
    rintro(z|z)
    ·rw[z,S.lst]at hl;cases hl
    ·rw[z,S.beg]at hl;cases hl
   refine⟨l,rfl,⟨_,SqL.of h1⟩,wc (K:=K) (a:=l) (xs:=tas.map V.ref) (λi σ H'=>∃v2 v3 s as,σ=[some (.ref x.p),some (dQ s.to),v2,v3]∧iz r (ts.take i)=some s∧(s.ps.length≤2*i∧s.bg.length≤i)∧eE c H1 H' x r as s.ps s.bg)
    ⟨none,none,⟨[],[],0⟩,[],rfl,rfl,⟨Nat.zero_le _,Nat.zero_le _⟩,S1⟩ (λi σ H' _⟨_,_,_,_,_,_,_,S'⟩=>SqL.of (S'.base _ _ h1 nl)) ?_ ?_⟩
   ·rintro i y σ H2 hi ⟨v2,v3,s,as,rfl,hs,hlen,S2⟩;rw[List.getElem?_map]at hi;obtain⟨a0,ha0,rfl⟩:=Option.map_eq_some_iff.mp hi;obtain⟨t,ht,d0,htk⟩:=h2.get ha0;have htok:H2 a0=some (.ins c.Token d0 (bO (.int t.aZ) (.int t.kind) (.int t.beg) (.int t.fin))):=S2.base _ _ htk (by
     rintro(z|z)
     ·rw[z,S1.lst]at htk;cases htk
     ·rw[z,S1.beg]at htk;cases htk)
    have hi5:i<5000:=Nat.lt_of_lt_of_le (List.getElem?_eq_some_iff.mp ht).1 (Nat.le_trans hts hz);obtain⟨s',hs'⟩:=AE hL (i+1);have hst:mN r s t=some s':=by
     rw[take_snoc ht,mf,hs]at hs';exact hs'
    have hlen':=xn hlen hst;unfold mN at hst;walk_at"rd";refine bY T htok ?_;walk_at"rd";refine⟨by show 4≤sizeLine;decide,λp3 hp3=>?_⟩
    have s3:=ao (o:=.tup [.int 8,.int 9,.int 10,.int 11]) hp3;have S3:=S2.same s3;have htok3:=s3 _ _ htok;refine inN (l:=[8,9,10,11]) af ?_;refine bR ?_;refine cj (λhb=>?_) (λhb=>?_)
    ·rw[if_pos hb]at hst
     by_cases hpre:AH r t (gz r s.to (if t.aZ=8 then t.beg+1 else t.beg) s.ps) s.bg
     ·rw[if_pos hpre]at hst;injection hst with hst
      have fin:∀(D:Ends),(∀H',(∃v2 v3 s as,([some (.ref x.p),some (dQ t.fin),some (.ref a0),some (dQ (if t.aZ=8 then t.beg+1 else t.beg))]:L2.St)=[some (.ref x.p),some (dQ s.to),v2,v3]∧iz r (ts.take (i+1))=some s∧(s.ps.length≤2*(i+1)∧s.bg.length≤i+1)∧eE c H1 H' x r as s.ps s.bg)→D.nx [some (.ref x.p),some (dQ t.fin),some (.ref a0),some (dQ (if t.aZ=8 then t.beg+1 else t.beg))] H')→
        Dx (pO (rk c.PieceReader "add_copied" (DI c) [] NoX (b9 0) (dF (b9 1) (dF (b9 3) ij)))) (Dx (pO (rk c.PieceReader "add_token" (Fj c AH fT) [] NoX (b9 0) (dF (b9 2) ij))) (Fd (jk K (b9 2) "end") (dX 1))) D [some (.ref x.p),some (dQ s.to),some (.ref a0),some (dQ (if t.aZ=8 then t.beg+1 else t.beg))] (upd H2 p3 (.tup [.int 8,.int 9,.int 10,.int 11])):=by
       intro D hD;refine aS (kK (AL S3 rfl ?_));walk_at"rd";refine⟨s.to,if t.aZ=8 then t.beg+1 else t.beg,x,r,as,s.ps,s.bg,H1,rfl,S3,by omega,λH4 as4 S4=>?_⟩
       have htok4:H4 a0=some (.ins c.Token d0 (bO (.int t.aZ) (.int t.kind) (.int t.beg) (.int t.fin))):=S4.base _ _ htk (by
        rintro(z|z)
        ·rw[z,S1.lst]at htk;cases htk
        ·rw[z,S1.beg]at htk;cases htk)
       refine cb (aS (kK (AL S4 rfl ?_)));walk_at"rd";have hc:=wF r s.to (if t.aZ=8 then t.beg+1 else t.beg) s.ps
       refine⟨x,r,as4,_,s.bg,H1,a0,d0,t,rfl,S4,htok4,by omega,by omega,hpre,λH5 as5 S5=>?_⟩
       have htok5:H5 a0=some (.ins c.Token d0 (bO (.int t.aZ) (.int t.kind) (.int t.beg) (.int t.fin))):=S5.base _ _ htk (by
        rintro(z|z)
        ·rw[z,S1.lst]at htk;cases htk
        ·rw[z,S1.beg]at htk;cases htk)
       walk_at"rd";refine i9 T htok5 ?_;refine hD H5 ⟨_,_,s',as5,by rw[←hst],hs',hlen',?_⟩
       rw[←hst];exact S5
      refine aS ?_;refine lg ?_;refine JY ?_;refine kJ (vC ?_);walk_at"rd";refine bY T htok3 ?_;refine r_c (pZ (bR ?_));refine cj (λh8=>?_) (λh8=>?_)
      ·rw[decide_eq_true_eq]at h8;rw[if_pos h8]at fin;walk_at"rd";refine cR T htok3 ?_;refine r_c (uO ?_);refine cb ?_;exact fin _ λH' h=>h
      ·rw[decide_eq_false_iff_not]at h8;rw[if_neg h8]at fin;refine nY (fw rfl ?_);refine cR T htok3 ?_;refine cb ?_;exact fin _ λH' h=>h
     ·rw[if_neg hpre]at hst;cases hst
    ·rw[if_neg (by rw[hb];exact Bool.false_ne_true)]at hst
     injection hst with hst
     subst hst;refine bw ?_;exact⟨_,_,s,as,rfl,hs',hlen',S3⟩
   ·rintro σ H2 ⟨v2,v3,s,as,rfl,hs,hlen,S2⟩;rw[List.length_map,h2.len,List.take_length,hL]at hs;injection hs with hs;subst hs
    refine cb (aS (kK (AL S2 rfl ?_)));walk_at"rd";refine xq T S2 ?_;walk_at"rd";refine⟨_,_,rfl,.inl (SqL.of S2.row),?_⟩;rw[List.length_map];walk_at"rd";rw[List.length_map,h2.len]at hlen;refine⟨L.to,r.length,x,r,as,L.ps,L.bg,H1,rfl,S2,by omega,λH3 as3 S3=>?_⟩
    walk_at"rd";refine iB T S3 ?_;rw[hLp]at S3;exact k H3 as3 ((Fr.of s1).trans S3.base) ⟨S3.lst,S3.each⟩
def Kx(c:Cs)(H:Hp)(r:List Int)(res:Except Nat (List Tok))(Q:VK)(E:XK):Prop:=match res with
 |.ok ts=>∃ps,readM r ts=some ps∧∀H' l as,aE H H'→H l=none→di c H' l as ps→Q (.ref l) H'
 |.error k=>∀H' dx,H' dx=some (.xd [(("place":Str),.int (k:Nat))])→aE H H'→E (.ref c.Fault) (some dx) H'
def KH(c:Cs):Sp:=λvs H Q E=>∃ra r,vs=[.ref ra]∧H ra=some (.lst (r.map V.int))∧r.length≤5000∧Kx c H r (eG r true) Q E
theorem tI(T:Txt K mg c):eU P w K mg base "read_template" ["template"] 11 (KH c):=by
 refine T.mV.has (k:=10) sZ (λvs H Q E h=>?_) (λfa cdv A outer sh0 H vs Q E hr h=>?_)
 ·obtain⟨ra,r,rfl,_⟩:=h;rfl
 ·obtain⟨ra,r,rfl,hr0,hz,k⟩:=h;refine⟨_,(ah (ay (pm0 (pL T) hr aJ (pmk (pM T) hr nox (aa (pv 0) ai))))),?_⟩
  try dsimp only[aM]
  walk_at"rd";intro a d ha hd nd;refine⟨a,d,ra,upd H d (.own a),r,rfl,rfl,by rw[ae nd.symm];exact ha,by rw[ae (aw hr0 hd)];exact hr0,λH' la ba s1 h1 h2 S=>?_⟩
  have s0:aE H H':=(ao hd).trans s1;refine⟨rfl,?_⟩;obtain⟨dx,hx⟩:=S.self;refine gv hx ?_ rfl;walk_at"rd";refine⟨⟨a,ra,la,ba⟩,r,rfl,S,hz,?_⟩;cases hsc:eG r true with
  |error n=>
   rw[hsc]at k;exactλH2 dx2 h s=>k H2 dx2 h (s0.trans s)
  |ok ts=>
   rw[hsc]at k;obtain⟨ps,hps,k⟩:=k;refine⟨ps,hps,λH2 as f hp=>k H2 la as (Fr.same s0 f ?_) ((ao hd).free h1) hp⟩;intro b o e;rintro(z|z)
   ·have z:b=la:=z;rw[z,(ao hd).free h1]at e;cases e
   ·have z:b=ba:=z;rw[z,(ao hd).free h2]at e;cases e
theorem Lc{σ:L2.St}{H:Hp}(xs:List V){j:Nat}{tl:TE}{tb:TS}{D:Ends}(ht:∀Q:VK,(∀a H1,aE H H1→H a=none→H1 a=some (.tup xs)→Q (.ref a) H1)→tl σ H Q)
  (h:∀a H1,aE H H1→H a=none→H1 a=some (.tup xs)→∃Pv:Nat→L2.St→Hp→Prop,Pv 0 σ H1∧(∀i σ H',i≤xs.length→Pv i σ H'→H' a=some (.tup xs))∧
   (∀i x σ H',xs[i]?=some x→Pv i σ H'→tb {D with nx:=Pv (i+1),ct:=Pv (i+1),bk:=D.nx} (σ.set j (some x)) H')∧∀σ H',Pv xs.length σ H'→D.nx σ H'):
  Dz (IL K tl) (dX j) tb D σ H:=by
 refine ht _ λa H1 s n e=>?_;obtain⟨Pv,h0,h1,h2,h3⟩:=h a H1 s n e;exact⟨a,rfl,⟨_,SqT.of e⟩,Gv (K:=K) (xs:=xs) Pv h0 (λi σ H' l p=>SqT.of (h1 i σ H' l p)) h2 h3⟩
def cu(c:Cs)(H:Hp)(a:Addr)(v:List Int):Prop:=∃dx wd l1 l2 l3,H a=some (.ins c.Text dx (yN (.int (v.length:Nat)) (.ref wd)))∧H wd=some (.dK [(.inl 1,.ref l1),(.inl 2,.ref l2),(.inl 3,.ref l3)])∧
 H l1=some (.lst ((wr 1 v).map V.int))∧H l2=some (.lst ((wr 2 v).map V.int))∧H l3=some (.lst ((wr 3 v).map V.int))
theorem cu.same{H H':Hp}{a:Addr}{v:List Int}(h:cu c H a v)(s:aE H H'):cu c H' a v:=by
 obtain⟨dx,wd,l1,l2,l3,e1,e2,e3,e4,e5⟩:=h;exact⟨dx,wd,l1,l2,l3,s _ _ e1,s _ _ e2,s _ _ e3,s _ _ e4,s _ _ e5⟩
def Ht(c:Cs):Sp:=λvs H Q _=>∃(a dx ra:Addr)(H0:Hp)(v:List Int),vs=[.ref a,.ref ra]∧H=upd H0 a (.ins c.Text dx [])∧H0 a=none∧H0 ra=some (.lst (v.map V.int))∧v.length≤1000∧
 ∀H',aE H0 H'→cu c H' a v→Q .non H'
def yI(l1 l2 l3:Addr):Nat→List (Key×V)
 |0=>[]
 |1=>[(.inl 1,.ref l1)]
 |2=>[(.inl 1,.ref l1),(.inl 2,.ref l2)]
 |_=>[(.inl 1,.ref l1),(.inl 2,.ref l2),(.inl 3,.ref l3)]
theorem Ey(l1 l2 l3:Addr):∀i,(yI l1 l2 l3 i).length≤3
 |0=>by simp[yI]
 |1=>by simp[yI]
 |2=>by simp[yI]
 |n+3=>by simp[yI]
theorem yA(T:Txt K mg c):sM P w K mg base c.Text "Text" ["self","row"] 4 (Ht c):=by
 refine T.tR.has (k:=3) rq (λvs H Q E h=>?_) (λfa cdv A outer sh0 H vs Q E hr h=>?_)
 ·obtain⟨a,dx,ra,H0,v,rfl,_⟩:=h;rfl
 ·obtain⟨a,dx,ra,H0,v,rfl,rfl,ha,hra,hz,k⟩:=h;refine⟨_,(ag (aT (pv 0) (aK aD (by rfl) T.b8 PySem.boot_len (aa (pv 1) ai)) rfl) (ag (aT (pv 0) Ec rfl) (ah (qN PassesOwn.leaving rfl (yo (kL (aa (pg T.rf) (aa (pg T.dh) (aa (pg T.eX) ai))))) (cn (i:=2) rq.nd rfl (Or.inl rfl)) (ah (BQ (jI hr) (ak (pv 0) rfl) (pv 2) (pf (pI T) hr nox (aa (pv 1) (aa (pv 2) ai))) rfl)))))),?_⟩
  try dsimp only[aM]
  walk_at"rd";refine⟨ra,_,rfl,.inl (SqL.of (by rw[ae (aw hra ha)];exact hra)),?_⟩
  rw[List.length_map];walk_at"rd";refine wi T.tR.cl T.qh (by show 0<1000;decide) ?_
  refine cb (aS (qK ?_));intro wd hwd;have n1:wd≠a:=λz=>by rw[z,af]at hwd;cases hwd
  rw[ae n1]at hwd;walk_at"rd";refine⟨a,_,dx,_,rfl,by rw[ae n1.symm];exact af,T.tR.cl,T.ou,by show 1<1000;decide,?_⟩
  refine cb ?_
  generalize hH1:upd (upd (upd H0 a _) wd (.dK [])) a _=H1
  have b1:H1 a=some (.ins c.Text dx (yN (.int (v.length:Nat)) (.ref wd))):=by rw[←hH1];exact af
  have b2:H1 wd=some (.dK []):=by rw[←hH1,ae n1,af]
  have b3:aE H0 H1:=λb o e=>by
   have g1:=aw e ha;have g2:=aw e hwd;rw[←hH1,ae g1,ae g2,ae g1];exact e
  clear hH1
  refine Lc [.int 1,.int 2,.int 3] (λQ' q=>?_) ?_
  ·walk_at"rd";exact⟨by show 3≤sizeLine;decide,λp hp=>q p _ (ao hp) hp af⟩
  ·intro t H2 s2 hn ht;have nt:t≠wd:=λz=>by rw[z,b2]at hn;cases hn
   refine⟨λi σ H'=>∃u l1 l2 l3,σ=[some (.ref a),some (.ref ra),u]∧Fr (λb=>b=wd) H2 H'∧H' wd=some (.dK (yI l1 l2 l3 i))∧
    (1≤i→H' l1=some (.lst ((wr 1 v).map V.int)))∧(2≤i→H' l2=some (.lst ((wr 2 v).map V.int)))∧(3≤i→H' l3=some (.lst ((wr 3 v).map V.int))),
    ⟨none,0,0,0,rfl,Fr.refl _,s2 _ _ b2,λh=>absurd h (by decide),λh=>absurd h (by decide),λh=>absurd h (by decide)⟩,?_,?_,?_⟩
   ·rintro i σ H' _ ⟨u,l1,l2,l3,rfl,f,_⟩;exact f _ _ ht nt
   ·rintro i x σ H' hi ⟨u,l1,l2,l3,rfl,f,hw,g1,g2,g3⟩;have hi3:i<3:=(List.getElem?_eq_some_iff.mp hi).1;have hx:x=.int ((i+1:Nat):Int):=by
     match i,hi3,hi with
     |0,_,hi=>cases hi;rfl
     |1,_,hi=>cases hi;rfl
     |2,_,hi=>cases hi;rfl
    subst hx;have hra':H' ra=some (.lst (v.map V.int)):=f _ _ (s2 _ _ (b3 _ _ hra)) (aw hra hwd);refine AD ?_;walk_at"rd";refine⟨ra,v,_,rfl,SqL.of hra',hz,λH3 p s3 hp hd=>?_⟩;walk_at"rd";refine mM T (s3 _ _ (f _ _ (s2 _ _ b1) (Ne.symm n1))) ?_;walk_at"rd";refine⟨wd,_,rfl,y8.k (k:=.inl ((i+1:Nat):Int)) (s3 _ _ hw) (Nat.lt_of_le_of_lt (Ey l1 l2 l3 i) (by decide)),?_⟩
    have npw:p≠wd:=λz=>by rw[z,hw]at hp;cases hp
    have nl:∀(l:Addr)(xs:List V),H' l=some (.lst xs)→upd H3 wd (.dK (putK (yI l1 l2 l3 i) (.inl ((i+1:Nat):Int)) (.ref p))) l=some (.lst xs):=λl xs e=>by
     rw[ae (aF e hw (by intro z;cases z))];exact s3 _ _ e
    have hp':upd H3 wd (.dK (putK (yI l1 l2 l3 i) (.inl ((i+1:Nat):Int)) (.ref p))) p=some (.lst ((wr ((i+1:Nat):Int) v).map V.int)):=by
     rw[ae npw];exact hd
    have fz:Fr (λb=>b=wd) H2 (upd H3 wd (.dK (putK (yI l1 l2 l3 i) (.inl ((i+1:Nat):Int)) (.ref p)))):=(f.trans (Fr.of s3)).trans (ff rfl)
    match i,hi3,hw,g1,g2,hp',fz,nl with
    |0,_,hw,g1,g2,hp',fz,nl=>exact⟨_,p,l2,l3,rfl,fz,af,λ_=>hp',λh=>absurd h (by decide),λh=>absurd h (by decide)⟩
    |1,_,hw,g1,g2,hp',fz,nl=>exact⟨_,l1,p,l3,rfl,fz,af,λ_=>nl _ _ (g1 (by decide)),λ_=>hp',λh=>absurd h (by decide)⟩
    |2,_,hw,g1,g2,hp',fz,nl=>exact⟨_,l1,l2,p,rfl,fz,af,λ_=>nl _ _ (g1 (by decide)),λ_=>nl _ _ (g2 (by decide)),λ_=>hp'⟩
   ·rintro σ H' ⟨u,l1,l2,l3,rfl,f,hw,g1,g2,g3⟩;refine k H' (λb o e=>f _ _ (s2 _ _ (b3 _ _ e)) (aw e hwd)) ⟨dx,wd,l1,l2,l3,f _ _ (s2 _ _ b1) (Ne.symm n1),hw,g1 (by decide),g2 (by decide),g3 (by decide)⟩
def Fn(c:Cs):Sp:=λvs H Q _=>∃(a dx:Addr)(H0:Hp),vs=[.ref a]∧H=upd H0 a (.ins c.Scope dx [])∧H0 a=none∧
 ∀H' td ld,aE H0 H'→H0 td=none→H0 ld=none→td≠ld→td≠a→ld≠a→H' a=some (.ins c.Scope dx (ko (.ref td) (.ref ld)))→H' td=some (.dT [])→H' ld=some (.dT [])→Q .non H'
theorem qc(T:Txt K mg c):sM P w K mg base c.Scope "Scope" ["self"] 1 (Fn c):=by
 refine T.pj.has (k:=0) wM (λvs H Q E h=>?_) (λfa cdv A outer sh0 H vs Q E hr h=>?_)
 ·obtain⟨a,dx,H0,rfl,_⟩:=h;rfl
 ·obtain⟨a,dx,H0,rfl,rfl,ha,k⟩:=h;refine⟨_,(ag (aT (pv 0) zz rfl) (ah (aT (pv 0) zz rfl))),?_⟩
  try dsimp only[aM]
  refine aS (qK ?_);intro td htd;have n1:td≠a:=λz=>by rw[z,af]at htd;cases htd
  rw[ae n1]at htd;walk_at"rd";refine⟨a,_,dx,_,rfl,by rw[ae n1.symm];exact af,T.pj.cl,T.qj,by show 0<1000;decide,?_⟩
  refine cb (qK ?_);intro ld hld;have n2:ld≠a:=λz=>by rw[z,af]at hld;cases hld
  rw[ae n2]at hld;have n3:ld≠td:=λz=>by rw[z,af]at hld;cases hld
  rw[ae n3,ae n2]at hld;walk_at"rd";refine⟨a,_,dx,_,rfl,by rw[ae n2.symm];exact af,T.pj.cl,T.qk,by show 1<1000;decide,?_⟩
  refine k _ td ld (λb o e=>?_) htd hld n3.symm n1 n2 af ?_ ?_
  ·have g1:=aw e ha;have g2:=aw e htd;have g3:=aw e hld;rw[ae g1,ae g3,ae g1,ae g2,ae g1];exact e
  ·rw[ae n1,ae n3.symm,ae n1,af]
  ·rw[ae n2,af]
section
open Stencil (textIn itemsIn near known valueOf holdsIn Bytes)
open Sp (i8)
abbrev SD:=Stencil.Data
def kb(n:Bytes):List Key:=(i8 n).map Sum.inl
theorem zV(n:Bytes):(kb n).map kV=(i8 n).map V.int:=by
 unfold kb;rw[List.map_map];rfl
theorem IM{a b:Bytes}(h:i8 a=i8 b):a=b:=by
 induction a generalizing b with
 |nil=>cases b with
  |nil=>rfl
  |cons _ _=>cases h
 |cons x a ih=>cases b with
  |nil=>cases h
  |cons y b=>
   rw[Sp.si,Sp.si]at h;injection h with h1 h2
   have e:x=y:=UInt8.toNat_inj.mp (by omega)
   rw[ih h2,e]
theorem EA{a b:Bytes}(h:kb a=kb b):a=b:=IM (List.map_inj_right (λ_ _ e=>Sum.inl.inj e)|>.mp h)
structure SCA where
 (a td ld:Addr)
structure SX where
 (s tr:Addr)
 (scs:List SCA)
 (li:List ((Nat×Bytes)×Addr))
def SX.at(x:SX)(j:Nat):V:=.ref ((x.scs[j]?.map (·.a)).getD 0)
def SX.O(x:SX):List Addr:=x.s::x.tr::(x.scs.map (·.td)++(x.scs.map (·.ld)++x.li.map (·.2)))
def y6(c:Cs)(H:Hp):Option V→Option Bytes→Prop
 |none,none=>True
 |some v,some t=>∃a,v=.ref a∧cu c H a (i8 t)
 |_,_=>False
structure aH(c:Cs)(H:Hp)(x:SX)(d:SD):Prop where
 self:∃dx,H x.s=some (.ins c.Store dx (ee (.ref x.tr) (.int (Stencil.count d:Nat)) (.int (Stencil.bytesOf d:Nat))))
 tr:H x.tr=some (.lst ((0::d.opened.reverse).map x.at))
 len:x.scs.length=d.items.length+1
 scope:∀(i:Nat)(q:SCA),x.scs[i]?=some q→∃dx,H q.a=some (.ins c.Scope dx (ko (.ref q.td) (.ref q.ld)))
 texts:∀(i:Nat)(q:SCA),x.scs[i]?=some q→∃kvs,H q.td=some (.dT kvs)∧kvs.length≤d.texts.length∧∀n,y6 c H (dY kvs (kb n)) (textIn d i n)
 lists:∀(i:Nat)(q:SCA),x.scs[i]?=some q→∃kvs,H q.ld=some (.dT kvs)∧kvs.length≤d.items.length∧∀n,dY kvs (kb n)=(x.li.lookup (i,n)).map V.ref
 li:∀(i:Nat)(n:Bytes),(x.li.lookup (i,n)=none∧itemsIn d i n=[])∨∃la,x.li.lookup (i,n)=some la∧itemsIn d i n≠[]∧H la=some (.lst ((itemsIn d i n).map x.at))
 opened:∀j∈d.opened,j≤d.items.length
 deep:d.opened.length≤16
 nd:x.O.Nodup
 nda:(x.scs.map (·.a)).Nodup
 tok:Sp.TOk d
 fit:Stencil.count d≤32∧Stencil.bytesOf d≤512
 excl:∀(i:Nat)(n:Bytes),(textIn d i n).isSome=true→itemsIn d i n=[]
 tin:∀e∈d.texts,e.1≤d.items.length
 par:∀(j:Nat)(e:Nat×Bytes),d.items[j]?=some e→e.1≤j
 kinds:∀p∈x.li,∃y ys,H p.2=some (.lst (.ref y::ys))
theorem y6.same{H H':Hp}{o:Option V}{t:Option Bytes}(h:y6 c H o t)(s:aE H H'):y6 c H' o t:=by
 cases o<;>cases t
 ·trivial
 ·exact h
 ·exact h
 ·obtain⟨a,e,h⟩:=h;exact⟨a,e,h.same s⟩
theorem aH.same{H H':Hp}{x:SX}{d:SD}(h:aH c H x d)(s:aE H H'):aH c H' x d:=by
 obtain⟨⟨dx,h1⟩,h2,h3,h4,h5,h6,h7,h8,h9,h10,h11,h12,h13,h15,h16,h17,h14⟩:=h;refine⟨⟨dx,s _ _ h1⟩,s _ _ h2,h3,λi q e=>?_,λi q e=>?_,λi q e=>?_,λi n=>?_,h8,h9,h10,h11,h12,h13,h15,h16,h17,λp hp=>?_⟩
 ·obtain⟨d,e⟩:=h4 i q e;exact⟨d,s _ _ e⟩
 ·obtain⟨k,e1,e2,e3⟩:=h5 i q e;exact⟨k,s _ _ e1,e2,λn=>(e3 n).same s⟩
 ·obtain⟨k,e1,e2⟩:=h6 i q e;exact⟨k,s _ _ e1,e2⟩
 ·rcases h7 i n with e|⟨la,e1,e2,e3⟩
  ·exact .inl e
  ·exact .inr ⟨la,e1,e2,s _ _ e3⟩
 ·obtain⟨y,ys,e⟩:=h14 p hp;exact⟨y,ys,s _ _ e⟩
section
variable {H:Hp}{x:SX}{d:SD}
theorem aH.sc(S:aH c H x d){i:Nat}(h:i≤d.items.length):∃q dx,x.scs[i]?=some q∧x.at i=.ref q.a∧H q.a=some (.ins c.Scope dx (ko (.ref q.td) (.ref q.ld))):=by
 have hl:i<x.scs.length:=by rw[S.len];omega
 obtain⟨dx,e⟩:=S.scope i x.scs[i] (List.getElem?_eq_getElem hl);refine⟨x.scs[i],dx,List.getElem?_eq_getElem hl,?_,e⟩;unfold SX.at;rw[List.getElem?_eq_getElem hl];rfl
theorem aH.inL(S:aH c H x d){i:Nat}{q:SCA}{ka:Addr}{n:Bytes}(hq:x.scs[i]?=some q)(hk:H ka=some (.tup ((i8 n).map V.int))):∃o,jV H q.ld (.ref ka) o∧o.isSome=!(itemsIn d i n).isEmpty∧o=(x.li.lookup (i,n)).map V.ref:=by
 obtain⟨kvs,e1,e2,e3⟩:=S.lists i q hq;refine⟨_,jV.t (k:=kb n) e1 (by rw[zV];exact hk),?_,e3 n⟩
 rw[e3 n];rcases S.li i n with⟨e,e'⟩|⟨la,e,e',_⟩
 ·rw[e,e'];rfl
 ·rw[e];cases hh:itemsIn d i n with
  |nil=>exact absurd hh e'
  |cons _ _=>rfl
theorem aH.inT(S:aH c H x d){i:Nat}{q:SCA}{ka:Addr}{n:Bytes}(hq:x.scs[i]?=some q)(hk:H ka=some (.tup ((i8 n).map V.int))):∃o,jV H q.td (.ref ka) o∧y6 c H o (textIn d i n):=by
 obtain⟨kvs,e1,e2,e3⟩:=S.texts i q hq;exact⟨_,jV.t (k:=kb n) e1 (by rw[zV];exact hk),e3 n⟩
end
theorem forR{σ:L2.St}{H:Hp}{a:Addr}{xs:List V}{i j:Nat}{tb:TS}{D:Ends}(Pv:Nat→L2.St→Hp→Prop)(hi:σ[i]?=some (some (.ref a)))(hl:SqL K H a xs)(h0:Pv 0 σ H)(hs:∀i σ H,i≤xs.length→Pv i σ H→SqL K H a xs)
  (hb:∀i y σ H,xs.reverse[i]?=some y→Pv i σ H→tb {D with nx:=Pv (i+1),ct:=Pv (i+1),bk:=D.nx} (σ.set j (some y)) H)(hd:∀σ H,Pv xs.length σ H→D.nx σ H):
  Dz (Kh K (dF (b9 i) ij)) (dX j) tb D σ H:=by
 refine⟨.ref a,hi,a,xs,rfl,hl,λi m σ H=>m=xs.length-i∧i≤xs.length∧Pv i σ H,⟨xs.length,by simp,Nat.zero_le _,h0⟩,?_⟩
 rintro i m σ H ⟨rfl,hi,p⟩;have q:=hs i σ H hi p
 by_cases hlt:i<xs.length
 ·refine .inr ⟨⟨hlt,xs,xs[xs.length-1-i]'(by omega),q,List.getElem?_eq_getElem (by omega)⟩,Pv (i+1),λσ' H' p'=>⟨xs.length-(i+1),by omega,rfl,hlt,p'⟩,λy H' e=>?_⟩
  obtain⟨rfl,e⟩:=e;refine hb i y σ _ ?_ p;rw[List.getElem?_reverse hlt];exact e xs q
 ·have e:i=xs.length:=by omega
  subst e;exact .inl ⟨Nat.le_refl _,hd σ H p⟩
def JC(c:Cs):Sp:=λvs H Q _=>∃(sl ka:Addr)(kd:Int)(x:SX)(d:SD)(sc:List Nat)(n:Bytes)(H0:Hp),vs=[.ref sl,.ref ka,.int kd]∧aE H0 H∧aH c H0 x d∧H sl=some (.lst (sc.reverse.map x.at))∧(∀j∈sc,j≤d.items.length)∧H ka=some (.tup ((i8 n).map V.int))∧
 (kd=1∨kd=2∨kd=3)∧∀H' l,aE H H'→(H0 l≠none∨H l=none)→H' l=some (.lst ((wr kd (i8 (valueOf d sc n))).map V.int))→Q (.ref l) H'
theorem CU{d:SD}{n:Bytes}{sc:List Nat}{i:Nat}(h:∀j∈sc.take i,known d j n=false):near d sc n=near d (sc.drop i) n:=by
 unfold near
 induction i generalizing sc with
 |zero=>rfl
 |succ i ih=>
  cases sc with
  |nil=>rfl
  |cons s sc=>
   rw[List.find?_cons,h s (by simp),List.drop_succ_cons]
   exact ih λj hj=>h j (by rw[List.take_succ_cons];exact List.mem_cons_of_mem _ hj)
theorem rR{d:SD}{n:Bytes}{sc:List Nat}{i s:Nat}(h:∀j∈sc.take i,known d j n=false)(hi:sc[i]?=some s)(hk:known d s n=true):near d sc n=some s:=by
 rw[CU h];obtain⟨hl,e⟩:=List.getElem?_eq_some_iff.mp hi;rw[List.drop_eq_getElem_cons hl,e];unfold near;rw[List.find?_cons,hk]
theorem B0{d:SD}{n:Bytes}{sc:List Nat}(h:∀j∈sc,known d j n=false):near d sc n=none:=by
 unfold near;rw[List.find?_eq_none];intro j hj;rw[h j hj];exact Bool.false_ne_true
theorem tF(T:Txt K mg c):eU P w K mg base "written_value" ["scopes","key","kind"] 1 (JC c):=by
 refine T.mR.has (k:=0) kZ (λvs H Q E h=>?_) (λfa cdv A outer sh0 H vs Q E hr h=>?_)
 ·obtain⟨sl,ka,kd,x,d,sc,n,H0,rfl,_⟩:=h;rfl
 ·obtain⟨sl,ka,kd,x,d,sc,n,H0,rfl,b0,S0,hsl,hj,hka,hkd,k⟩:=h;have S:=S0.same b0;refine⟨_,(ag (qN PassesOwn.leaving rfl (ug rfl T.rh (aa (pv 0) ai)) (cn (i:=3) kZ.nd rfl (Or.inl rfl)) (ag (aP (n8 (qO (jI hr) (pv 1) (ak (pv 3) rfl))) (ah (ay (u0 (jI hr) (ak (u0 (jI hr) (ak (pv 3) rfl) (pv 1) (λ_ _=>rfl)) rfl) (pv 2) (λ_ _=>rfl)))) aO) (ah (aP (n8 (qO (jI hr) (pv 1) (ak (pv 3) rfl))) (ah (ay (aU ai))) aO)))) (ah (ay (aU ai)))),?_⟩
  try dsimp only[aM]
  refine aS ?_;refine forR (λi σ H'=>∃u,σ=[some (.ref sl),some (.ref ka),some (.int kd),u]∧H'=H∧∀j∈sc.take i,known d j n=false) rfl (SqL.of hsl) ⟨none,rfl,rfl,λ_ h=>nomatch h⟩ (λi σ H' _⟨_,_,e,_⟩=>by rw[e];exact SqL.of hsl) ?_ ?_
  ·rintro i y σ H' hi ⟨u,rfl,rfl,hnk⟩;rw[←List.map_reverse,List.reverse_reverse,List.getElem?_map]at hi;obtain⟨s,hs,rfl⟩:=Option.map_eq_some_iff.mp hi;obtain⟨q,dx,hq,ea,hqa⟩:=S.sc (hj s (List.mem_of_getElem? hs));rw[ea];obtain⟨kvs,k1,_,k3⟩:=S0.texts s q hq;have g1:jV H' q.td (.ref ka) (dY kvs (kb n)):=jV.t (k:=kb n) (b0 _ _ k1) (by rw[zV];exact hka)
   have g2:=k3 n
   generalize dY kvs (kb n)=ot at g1 g2
   obtain⟨ol,g3,g4,_⟩:=S.inL hq hka;walk_at"rd";refine cg T hqa ?_;refine⟨q.td,ot,rfl,g1,?_⟩;refine bR ?_;cases ht:textIn d s n with
   |some v=>
    rw[ht]at g2;cases ot with
    |none=>exact g2.elim
    |some tv=>
     obtain⟨ta,rfl,dt,wd,l1,l2,l3,e1,e2,e3,e4,e5⟩:=g2;have hv:valueOf d sc n=v:=by
      unfold valueOf;rw[rR hnk hs (by unfold known;rw[ht];rfl)]
      show(textIn d s n).getD []=v;rw[ht];rfl
     rw[hv]at k;refine ite_true ?_;walk_at"rd";refine cg T hqa ?_;walk_at"rd";refine⟨q.td,_,rfl,g1,?_⟩;refine mM T (b0 _ _ e1) ?_;walk_at"rd";rcases hkd with rfl|rfl|rfl
     ·exact⟨wd,.ref l1,rfl,jV.k (k:=.inl 1) (b0 _ _ e2),k _ _ (aE.refl _) (.inl (by rw[e3];simp)) (b0 _ _ e3)⟩
     ·exact⟨wd,.ref l2,rfl,jV.k (k:=.inl 2) (b0 _ _ e2),k _ _ (aE.refl _) (.inl (by rw[e4];simp)) (b0 _ _ e4)⟩
     ·exact⟨wd,.ref l3,rfl,jV.k (k:=.inl 3) (b0 _ _ e2),k _ _ (aE.refl _) (.inl (by rw[e5];simp)) (b0 _ _ e5)⟩
   |none=>
    rw[ht]at g2;cases ot with
    |some _=>exact g2.elim
    |none=>
     refine ite_false ?_;walk_at"rd";refine dM T hqa ?_;refine⟨q.ld,ol,rfl,g3,?_⟩;refine bR ?_;rw[g4];cases hL:(itemsIn d s n).isEmpty with
     |false=>
      have hv:valueOf d sc n=[]:=by
       unfold valueOf;rw[rR hnk hs (by unfold known;rw[ht,hL];rfl)]
       show(textIn d s n).getD []=[];rw[ht];rfl
      rw[hv]at k;walk_at"rd";exact⟨Nat.zero_le _,λp hp=>k _ p (ao hp) (.inr hp) af⟩
     |true=>
      walk_at"rd";refine⟨_,rfl,rfl,λj hj'=>?_⟩;rw[take_snoc hs]at hj';rcases List.mem_append.mp hj' with h|h
      ·exact hnk j h
      ·rw[List.mem_singleton.mp h];unfold known;rw[ht,hL];rfl
  ·rintro σ H' ⟨u,rfl,rfl,hnk⟩;rw[List.length_map,List.length_reverse,List.take_length]at hnk;have hv:valueOf d sc n=[]:=by
    unfold valueOf;rw[B0 hnk]
   rw[hv]at k;walk_at"rd";exact⟨Nat.zero_le _,λp hp=>k _ p (ao hp) (.inr hp) af⟩
def Fl(c:Cs):Sp:=λvs H Q _=>∃(sl ka:Addr)(x:SX)(d:SD)(sc:List Nat)(n:Bytes),vs=[.ref sl,.ref ka]∧aH c H x d∧H sl=some (.lst (sc.reverse.map x.at))∧(∀j∈sc,j≤d.items.length)∧H ka=some (.tup ((i8 n).map V.int))∧
 ∀H',aE H H'→Q (.bl (holdsIn d sc n)) H'
theorem zB(T:Txt K mg c):eU P w K mg base "is_there" ["scopes","key"] 1 (Fl c):=by
 refine T.wg.has (k:=0) t7 (λvs H Q E h=>?_) (λfa cdv A outer sh0 H vs Q E hr h=>?_)
 ·obtain⟨sl,ka,x,d,sc,n,rfl,_⟩:=h;rfl
 ·obtain⟨sl,ka,x,d,sc,n,rfl,S,hsl,hj,hka,k⟩:=h;have k0:=k H (aE.refl H);refine⟨_,(ag (qN PassesOwn.leaving rfl (ug rfl T.rh (aa (pv 0) ai)) (cn (i:=2) t7.nd rfl (Or.inl rfl)) (ag (aP (n8 (qO (jI hr) (pv 1) (ak (pv 2) rfl))) (ah (ay (bK p8 (ak (u0 (jI hr) (ak (pv 2) rfl) (pv 1) (λ_ _=>rfl)) rfl) aA (aB _)))) aO) (ah (aP (n8 (qO (jI hr) (pv 1) (ak (pv 2) rfl))) (ah (ay vI)) aO)))) (ah (ay vI))),?_⟩
  try dsimp only[aM]
  refine aS ?_;refine forR (λi σ H'=>∃u,σ=[some (.ref sl),some (.ref ka),u]∧H'=H∧∀j∈sc.take i,known d j n=false) rfl (SqL.of hsl) ⟨none,rfl,rfl,λ_ h=>nomatch h⟩ (λi σ H' _⟨_,_,e,_⟩=>by rw[e];exact SqL.of hsl) ?_ ?_
  ·rintro i y σ H' hi ⟨u,rfl,rfl,hnk⟩;rw[←List.map_reverse,List.reverse_reverse,List.getElem?_map]at hi;obtain⟨s,hs,rfl⟩:=Option.map_eq_some_iff.mp hi;obtain⟨q,dx,hq,ea,hqa⟩:=S.sc (hj s (List.mem_of_getElem? hs));rw[ea];obtain⟨ot,g1,g2⟩:=S.inT hq hka;obtain⟨ol,g3,g4,_⟩:=S.inL hq hka;walk_at"rd";refine cg T hqa ?_;refine⟨q.td,ot,rfl,g1,?_⟩;refine bR ?_;cases ht:textIn d s n with
   |some v=>
    rw[ht]at g2;cases ot with
    |none=>exact g2.elim
    |some tv=>
     obtain⟨ta,rfl,dt,wd,l1,l2,l3,e1,e2,e3,e4,e5⟩:=g2;have hv:holdsIn d sc n=decide (0<(v.length:Int)):=by
      unfold holdsIn;rw[rR hnk hs (by unfold known;rw[ht];rfl)]
      show(!(itemsIn d s n).isEmpty||!((textIn d s n).getD []).isEmpty)=_;rw[S.excl s n (by rw[ht];rfl),ht]
      show(false||!v.isEmpty)=_;cases v with
      |nil=>rfl
      |cons _ _=>symm;rw[Bool.false_or];simp only[List.isEmpty_cons,Bool.not_false,decide_eq_true_eq,List.length_cons];omega
     rw[hv]at k0;refine ite_true ?_;walk_at"rd";refine cg T hqa ?_;walk_at"rd";refine⟨q.td,_,rfl,g1,?_⟩;refine nS T e1 ?_;rw[Sp.aQ];walk_at"rd";exact k0
   |none=>
    rw[ht]at g2;cases ot with
    |some _=>exact g2.elim
    |none=>
     refine ite_false ?_;walk_at"rd";refine dM T hqa ?_;refine⟨q.ld,ol,rfl,g3,?_⟩;refine bR ?_;rw[g4];cases hL:(itemsIn d s n).isEmpty with
     |false=>
      have hv:holdsIn d sc n=true:=by
       unfold holdsIn;rw[rR hnk hs (by unfold known;rw[ht,hL];rfl)]
       show(!(itemsIn d s n).isEmpty||_)=true;rw[hL];rfl
      rw[hv]at k0;walk_at"rd";exact k0
     |true=>
      walk_at"rd";refine⟨_,rfl,rfl,λj hj'=>?_⟩;rw[take_snoc hs]at hj';rcases List.mem_append.mp hj' with h|h
      ·exact hnk j h
      ·rw[List.mem_singleton.mp h];unfold known;rw[ht,hL];rfl
  ·rintro σ H' ⟨u,rfl,rfl,hnk⟩;rw[List.length_map,List.length_reverse,List.take_length]at hnk;have hv:holdsIn d sc n=false:=by
    unfold holdsIn;rw[B0 hnk]
   rw[hv]at k0;walk_at"rd";exact k0
end
section
open Stencil (letter digit nameByte blank isName Bytes)
open Sp (i8)
theorem cv{P:UInt8→Bool}(h:∀n:Nat,n<256→P (UInt8.ofNat n)=true)(b:UInt8):P b=true:=by
 have:=h b.toNat b.toNat_lt
 rwa[UInt8.ofNat_toNat]at this
theorem hJ(b:UInt8):cN ((b.toNat:Nat):Int)=letter b:=
 eq_of_beq (cv (P:=λb=>cN ((b.toNat:Nat):Int)==letter b) (by decide+kernel) b)
theorem IV(b:UInt8):fMk ((b.toNat:Nat):Int)=nameByte b:=
 eq_of_beq (cv (P:=λb=>fMk ((b.toNat:Nat):Int)==nameByte b) (by decide+kernel) b)
theorem EN(b:UInt8):fNm ((b.toNat:Nat):Int)=(nameByte b||b==95):=
 eq_of_beq (cv (P:=λb=>fNm ((b.toNat:Nat):Int)==(nameByte b||b==95)) (by decide+kernel) b)
theorem Df(b:UInt8):qZ ((b.toNat:Nat):Int)=blank b:=
 eq_of_beq (cv (P:=λb=>qZ ((b.toNat:Nat):Int)==blank b) (by decide+kernel) b)
theorem A2(b:UInt8)(h:letter b=true):fNm ((b.toNat:Nat):Int)=true:=by
 have:=cv (P:=λb=>!letter b||fNm ((b.toNat:Nat):Int)) (by decide+kernel) b
 simpa[h]using this
theorem IP(f:Int→Bool)(n:Bytes):(i8 n).all f=n.all λb=>f ((b.toNat:Nat):Int):=by
 unfold i8;rw[List.all_map];rfl
theorem z9(n:Bytes):Cb (i8 n)=isName n:=by
 cases n with
 |nil=>rfl
 |cons b r=>
  rw[Sp.si,mB,hJ];show _=(letter b&&(r.all (λx=>nameByte x||x==95)&&decide (r.length≤31)));rw[List.all_cons,IP,Sp.aQ,show(λb:UInt8=>fNm ((b.toNat:Nat):Int))=(λx=>nameByte x||x==95)from funext EN,show decide (r.length+1≤32)=decide (r.length≤31)from by simp]
  cases hl:letter b with
  |false=>simp
  |true=>rw[A2 b hl];simp[Bool.and_comm]
end
section
open Stencil (textIn itemsIn near known valueOf holdsIn Bytes count bytesOf fitsIn)
open Sp (i8)
structure Up(x:SX)(H:Hp)(x':SX)(H':Hp):Prop where
 s:x'.s=x.s
 fr:Fr (λb=>b∈x.O) H H'
 new:∀b∈x'.O,b∈x.O∨H b=none
theorem Up.refl(x:SX)(H:Hp):Up x H x H:=⟨rfl,Fr.refl _,λ_ h=>.inl h⟩
section
variable {H:Hp}{x:SX}{d:SD}
theorem va(d:SD)(x:SX):((0::d.opened.reverse).map x.at)[((0::d.opened.reverse).map x.at).length-1]?=some (x.at d.here):=by
 rw[←List.getLast?_eq_getElem?,List.getLast?_map];unfold Stencil.Data.here;cases h:d.opened with
 |nil=>rfl
 |cons j r=>
  rw[List.reverse_cons,←List.cons_append,List.getLast?_append];rfl
theorem aH.pq(S:aH c H x d):d.here≤d.items.length:=by
 unfold Stencil.Data.here;cases h:d.opened with
 |nil=>exact Nat.zero_le _
 |cons j r=>exact S.opened j (by rw[h];exact List.mem_cons_self)
theorem sR(d:SD)(x:SX):0<((0::d.opened.reverse).map x.at).length:=by
 rw[List.length_map];exact Nat.succ_pos _
end
def Fp(c:Cs):Sp:=λvs H Q _=>∃x d,vs=[.ref x.s]∧aH c H x d∧Q (x.at 0) H
theorem qR(T:Txt K mg c):bU P w K mg base c.Store "outermost" ["self"] 1 (Fp c):=by
 refine T.kf.has (k:=0) qG (λvs H Q E h=>?_) (λfa cdv A outer sh0 H vs Q E hr h=>?_)
 ·obtain⟨x,d,rfl,_⟩:=h;rfl
 ·obtain⟨x,d,rfl,S,k⟩:=h;obtain⟨dx,hs⟩:=S.self;refine⟨_,(ah (ay (dz bD (ak (pv 0) rfl) aA (λ_ _=>rfl)))),?_⟩
  try dsimp only[aM]
  walk_at"rd";refine bB T hs ?_;walk_at"rd";exact⟨x.tr,_,_,_,rfl,rfl,SqL.of S.tr,c6 (j:=0) (v:=x.at 0) rfl,k⟩
def CF(c:Cs):Sp:=λvs H Q _=>∃x d,vs=[.ref x.s]∧aH c H x d∧Q (.bl (!d.opened.isEmpty)) H
theorem fY(T:Txt K mg c):bU P w K mg base c.Store "has_open_item" ["self"] 1 (CF c):=by
 refine T.gM.has (k:=0) lR (λvs H Q E h=>?_) (λfa cdv A outer sh0 H vs Q E hr h=>?_)
 ·obtain⟨x,d,rfl,_⟩:=h;rfl
 ·obtain⟨x,d,rfl,S,k⟩:=h;obtain⟨dx,hs⟩:=S.self;refine⟨_,(ah (ay (bK p8 (aK aD (by rfl) T.b8 PySem.boot_len (aa (ak (pv 0) rfl) ai)) aA (aB _)))),?_⟩
  try dsimp only[aM]
  walk_at"rd";refine bB T hs ?_;walk_at"rd";refine⟨x.tr,_,rfl,.inl (SqL.of S.tr),?_⟩;walk_at"rd";rw[show decide ((1:Int)<(((0::d.opened.reverse).map x.at).length:Int))=!d.opened.isEmpty from by
   rw[List.length_map,List.length_cons,List.length_reverse];cases d.opened with
   |nil=>rfl
   |cons _ _=>simp only[List.length_cons,List.isEmpty_cons,Bool.not_false,decide_eq_true_eq];omega]
  exact k
def Hx(c:Cs):Sp:=λvs H Q _=>∃(s dx:Addr)(t:V)(ec bc e b:Int),vs=[.ref s,.int e,.int b]∧H s=some (.ins c.Store dx (ee t (.int ec) (.int bc)))∧
 (¬(ec+e≤32∧bc+b≤512)→Q (.bl false) H)∧(ec+e≤32∧bc+b≤512→Q (.bl true) (upd H s (.ins c.Store dx (ee t (.int (ec+e)) (.int (bc+b))))))
theorem fb(T:Txt K mg c):bU P w K mg base c.Store "take_room" ["self","more_entries","more_bytes"] 1 (Hx c):=by
 refine T.ke.has (k:=0) e7 (λvs H Q E h=>?_) (λfa cdv A outer sh0 H vs Q E hr h=>?_)
 ·obtain⟨s,dx,t,ec,bc,e,b,rfl,_⟩:=h;rfl
 ·obtain⟨s0,dx,t,ec,bc,e,b,rfl,hs,k1,k2⟩:=h;refine⟨_,(ag (aI (i:=3) e7.nd rfl (Or.inl rfl) (eM iR (ak (pv 0) rfl) (pv 1))) (ag (aI (i:=4) e7.nd rfl (Or.inl rfl) (eM iR (ak (pv 0) rfl) (pv 2))) (ag (aP (ue (az p8 (pv 3) (pg T.oS) (aB _)) (qL (az p8 (pv 4) (pg T.sC) (aB _)))).pt (ah (ay vI)) aO) (ag (aT (pv 0) (pv 3) rfl) (ag (aT (pv 0) (pv 4) rfl) (ah (ay vI))))))),?_⟩
  try dsimp only[aM]
  walk_at"rd";refine nU T hs ?_;walk_at"rd";refine pG T hs ?_;walk_at"rd"
  ·rename_i h1;rw[decide_eq_true_eq]at h1;exact k1 (by omega)
  ·rename_i h1 h2;rw[decide_eq_true_eq]at h2;exact k1 (by omega)
  ·rename_i h1 h2;rw[decide_eq_false_iff_not]at h1 h2;refine nH T hs ?_;walk_at"rd";refine pC T af ?_;walk_at"rd";rw[fN];exact k2 (by omega)
def nF(x:SX)(d:SD):List (Str×V):=ee (.ref x.tr) (.int (count d:Nat)) (.int (bytesOf d:Nat))
def Fo(c:Cs):Sp:=λvs H Q _=>∃(x:SX)(d:SD)(ka ra dx:Addr)(n v:Bytes),vs=[.ref x.s,.ref ka,.ref ra]∧aH c H x d∧H x.s=some (.ins c.Store dx (nF x d))∧H ka=some (.tup ((i8 n).map V.int))∧H ra=some (.lst ((i8 v).map V.int))∧
 (fitsIn (Stencil.put d n v)=false→Q (.bl false) H)∧(fitsIn (Stencil.put d n v)=true→Q (.bl true) (upd H x.s (.ins c.Store dx (nF x (Stencil.put d n v)))))
theorem vR{d:SD}(h:¬(count d≤32∧bytesOf d≤512)):fitsIn d=false:=by
 cases e:fitsIn d with
 |false=>rfl
 |true=>exact absurd ((Sp.oK d).mp e) h
theorem jc(T:Txt K mg c):bU P w K mg base c.Store "take_room_for_text" ["self","key","row"] 2 (Fo c):=by
 refine T.dR.has (k:=1) du (λvs H Q E h=>?_) (λfa cdv A outer sh0 H vs Q E hr h=>?_)
 ·obtain⟨x,d,ka,ra,dx,n,v,rfl,_⟩:=h;rfl
 ·obtain⟨x,d,ka,ra,dx,n,v,rfl,S,hs,hka,hra,k1,k2⟩:=h;unfold nF at hs k2;refine⟨_,(ag (aI (i:=3) du.nd rfl (Or.inl rfl) (ak (dz bD (ak (pv 0) rfl) (dN cf aA) (λ_ _=>rfl)) rfl)) (ag (aP (n8 (qO (jI hr) (pv 1) (pv 3))) (ah (ay (pm (fb T) hr nox (pv 0) (aa aA (aa (eM vK (aK aD (by rfl) T.b8 PySem.boot_len (aa (pv 2) ai)) (ak (u0 (jI hr) (pv 3) (pv 1) (λ_ _=>rfl)) rfl)) ai))))) aO) (ah (ay (pm (fb T) hr nox (pv 0) (aa aA (aa (eM iR (aK aD (by rfl) T.b8 PySem.boot_len (aa (pv 1) ai)) (aK aD (by rfl) T.b8 PySem.boot_len (aa (pv 2) ai))) ai))))))),?_⟩
  try dsimp only[aM]
  obtain⟨q,dq,hq,ea,hqa⟩:=S.sc S.pq;obtain⟨ot,g1,g2⟩:=S.inT hq hka;walk_at"rd";refine bB T hs ?_;walk_at"rd";refine⟨x.tr,_,_,_,rfl,rfl,SqL.of S.tr,jg (va d x) (sR d x),?_⟩;rw[ea];dsimp only;refine cg T hqa ?_;walk_at"rd";refine⟨q.td,ot,rfl,g1,?_⟩;refine bR ?_;cases ht:textIn d d.here n with
  |some t=>
   rw[ht]at g2;cases ot with
   |none=>exact g2.elim
   |some tv=>
    obtain⟨ta,rfl,dt,wd,l1,l2,l3,e1,e2,e3,e4,e5⟩:=g2;refine ite_true ?_;walk_at"rd";refine eT hs ?_ rfl;walk_at"rd";refine⟨ra,_,rfl,.inl (SqL.of hra),?_⟩;walk_at"rd";refine⟨q.td,_,rfl,g1,?_⟩;refine nS T e1 ?_;walk_at"rd";have hc:=Sp.wU (v:=v) ht;have hb:=Sp.wX (v:=v) S.tok ht;rw[List.length_map,Sp.aQ,Sp.aQ];have hfc:=S.fit;refine⟨x.s,dx,_,_,_,_,_,rfl,hs,λh=>k1 (vR λz=>h ⟨by omega,by omega⟩),λh=>?_⟩
    have k:=k2 ((Sp.oK _).mpr ⟨by omega,by omega⟩)
    rw[hc]at k;rw[show((count d:Nat):Int)+0=((count d:Nat):Int)by omega,show((bytesOf d:Nat):Int)+((v.length:Int)-(t.length:Int))=((bytesOf (Stencil.put d n v):Nat):Int)by omega]
    exact k
  |none=>
   rw[ht]at g2;cases ot with
   |some _=>exact g2.elim
   |none=>
    refine ite_false ?_;walk_at"rd";refine eT hs ?_ rfl;walk_at"rd";refine⟨ka,_,rfl,.inr (SqT.of hka),?_⟩;walk_at"rd";refine⟨ra,_,rfl,.inl (SqL.of hra),?_⟩;walk_at"rd";have hc:=Sp.wV (v:=v) ht;have hb:=Sp.wY (v:=v) ht;rw[List.length_map,List.length_map,Sp.aQ,Sp.aQ];refine⟨x.s,dx,_,_,_,_,_,rfl,hs,λh=>k1 (vR λz=>h ⟨by omega,by omega⟩),λh=>?_⟩
    have k:=k2 ((Sp.oK _).mpr ⟨by omega,by omega⟩)
    rw[show((count d:Nat):Int)+1=((count (Stencil.put d n v):Nat):Int)by omega,show((bytesOf d:Nat):Int)+((n.length:Int)+(v.length:Int))=((bytesOf (Stencil.put d n v):Nat):Int)by omega]
    exact k
end
section
open Stencil (textIn itemsIn near known valueOf holdsIn Bytes count bytesOf fitsIn)
open Sp (i8)
structure Dst(x:SX):Prop where
 str:x.s≠x.tr
 std:∀q∈x.scs,x.s≠q.td∧x.s≠q.ld∧x.tr≠q.td∧x.tr≠q.ld
 sla:∀p∈x.li,x.s≠p.2∧x.tr≠p.2
 tdl:∀q∈x.scs,∀q'∈x.scs,q.td≠q'.ld
 tla:∀q∈x.scs,∀p∈x.li,q.td≠p.2∧q.ld≠p.2
 tds:(x.scs.map (·.td)).Nodup
 lds:(x.scs.map (·.ld)).Nodup
 las:(x.li.map (·.2)).Nodup
theorem dst{x:SX}(h:x.O.Nodup):Dst x:=by
 unfold SX.O at h;rw[List.nodup_cons,List.nodup_cons,List.nodup_append,List.nodup_append]at h;obtain⟨h1,h2,h3,⟨h4,h5,h6⟩,h7⟩:=h;have mt:∀q∈x.scs,q.td∈x.scs.map (·.td):=λq hq=>List.mem_map.mpr ⟨q,hq,rfl⟩
 have ml:∀q∈x.scs,q.ld∈x.scs.map (·.ld):=λq hq=>List.mem_map.mpr ⟨q,hq,rfl⟩
 have ma:∀p∈x.li,p.2∈x.li.map (·.2):=λq hq=>List.mem_map.mpr ⟨q,hq,rfl⟩
 refine⟨λz=>h1 (by rw[z];exact List.mem_cons_self),λq hq=>⟨λz=>h1 ?_,λz=>h1 ?_,λz=>h2 ?_,λz=>h2 ?_⟩,λp hp=>⟨λz=>h1 ?_,λz=>h2 ?_⟩,λq hq q' hq'=>h7 _ (mt q hq) _ (List.mem_append_left _ (ml q' hq')),λq hq p hp=>⟨h7 _ (mt q hq) _ (List.mem_append_right _ (ma p hp)),h6 _ (ml q hq) _ (ma p hp)⟩,h3,h4,h5⟩
 ·rw[z];exact List.mem_cons_of_mem _ (List.mem_append_left _ (mt q hq))
 ·rw[z];exact List.mem_cons_of_mem _ (List.mem_append_right _ (List.mem_append_left _ (ml q hq)))
 ·rw[z];exact List.mem_append_left _ (mt q hq)
 ·rw[z];exact List.mem_append_right _ (List.mem_append_left _ (ml q hq))
 ·rw[z];exact List.mem_cons_of_mem _ (List.mem_append_right _ (List.mem_append_right _ (ma p hp)))
 ·rw[z];exact List.mem_append_right _ (List.mem_append_right _ (ma p hp))
theorem Dst.nd{x:SX}(h:Dst x):x.O.Nodup:=by
 unfold SX.O;rw[List.nodup_cons,List.nodup_cons,List.nodup_append,List.nodup_append];have mt:∀b,b∈x.scs.map (·.td)→∃q∈x.scs,b=q.td:=λb hb=>by obtain⟨q,hq,e⟩:=List.mem_map.mp hb;exact⟨q,hq,e.symm⟩
 have ml:∀b,b∈x.scs.map (·.ld)→∃q∈x.scs,b=q.ld:=λb hb=>by obtain⟨q,hq,e⟩:=List.mem_map.mp hb;exact⟨q,hq,e.symm⟩
 have ma:∀b,b∈x.li.map (·.2)→∃q∈x.li,b=q.2:=λb hb=>by obtain⟨q,hq,e⟩:=List.mem_map.mp hb;exact⟨q,hq,e.symm⟩
 refine⟨λm=>?_,λm=>?_,h.tds,⟨h.lds,h.las,λa ha b hb=>?_⟩,λa ha b hb=>?_⟩
 ·rcases List.mem_cons.mp m with z|m
  ·exact h.str z
  ·rcases List.mem_append.mp m with m|m
   ·obtain⟨q,hq,e⟩:=mt _ m;exact(h.std q hq).1 e
   ·rcases List.mem_append.mp m with m|m
    ·obtain⟨q,hq,e⟩:=ml _ m;exact(h.std q hq).2.1 e
    ·obtain⟨q,hq,e⟩:=ma _ m;exact(h.sla q hq).1 e
 ·rcases List.mem_append.mp m with m|m
  ·obtain⟨q,hq,e⟩:=mt _ m;exact(h.std q hq).2.2.1 e
  ·rcases List.mem_append.mp m with m|m
   ·obtain⟨q,hq,e⟩:=ml _ m;exact(h.std q hq).2.2.2 e
   ·obtain⟨q,hq,e⟩:=ma _ m;exact(h.sla q hq).2 e
 ·obtain⟨q,hq,rfl⟩:=ml _ ha;obtain⟨p,hp,rfl⟩:=ma _ hb;exact(h.tla q hq p hp).2
 ·obtain⟨q,hq,rfl⟩:=mt _ ha;rcases List.mem_append.mp hb with m|m
  ·obtain⟨q',hq',rfl⟩:=ml _ m;exact h.tdl q hq q' hq'
  ·obtain⟨p,hp,rfl⟩:=ma _ m;exact(h.tla q hq p hp).1
theorem Ko{x:SX}(h:(x.scs.map (·.td)).Nodup){i j:Nat}{q q':SCA}(hi:x.scs[i]?=some q)(hj:x.scs[j]?=some q')(e:q.td=q'.td):i=j:=
 Em h (by rw[List.getElem?_map,hi];rfl) (by rw[List.getElem?_map,hj];show some q'.td=some q.td;rw[e])
theorem Kp{x:SX}(h:(x.scs.map (·.ld)).Nodup){i j:Nat}{q q':SCA}(hi:x.scs[i]?=some q)(hj:x.scs[j]?=some q')(e:q.ld=q'.ld):i=j:=
 Em h (by rw[List.getElem?_map,hi];rfl) (by rw[List.getElem?_map,hj];show some q'.ld=some q.ld;rw[e])
theorem z7{s:Nat}{n v:Bytes}(i:Nat)(m:Bytes):∀{l:List Sp.Tx}{x:Sp.Tx},l.find? (Sp.hit s n)=some x→((l.map (Sp.sub s n v)).find? (Sp.hit i m)).map (λe=>e.2.2)=if i=s∧m=n then some v else(l.find? (Sp.hit i m)).map λe=>e.2.2
 |[],x,h=>by cases h
 |e::l,x,h=>by
  rw[List.map_cons,List.find?_cons,List.find?_cons];rw[List.find?_cons]at h;have hk:Sp.hit i m (Sp.sub s n v e)=Sp.hit i m e:=by
   rw[Bool.eq_iff_iff,Sp.c3,Sp.c3,Sp.yH]
  rw[hk];cases hq:Sp.hit s n e with
  |true=>
   cases hp:Sp.hit i m e with
   |true=>
    have e1:=Sp.c3.mp hq;have e2:=Sp.c3.mp hp;rw[e1]at e2;injection e2 with e2 e3
    rw[if_pos ⟨e2.symm,e3.symm⟩];show some (Sp.sub s n v e).2.2=some v;unfold Sp.sub;rw[if_pos hq]
   |false=>
    have hne:¬(i=s∧m=n):=λ⟨a,b⟩=>by rw[a,b,hq]at hp;cases hp
    rw[if_neg hne];dsimp only;have:∀l:List Sp.Tx,((l.map (Sp.sub s n v)).find? (Sp.hit i m)).map (λe=>e.2.2)=(l.find? (Sp.hit i m)).map λe=>e.2.2:=by
     intro l
     induction l with
     |nil=>rfl
     |cons e l ih=>
      rw[List.map_cons,List.find?_cons,List.find?_cons];have hk:Sp.hit i m (Sp.sub s n v e)=Sp.hit i m e:=by rw[Bool.eq_iff_iff,Sp.c3,Sp.c3,Sp.yH]
      rw[hk];cases hp:Sp.hit i m e with
      |true=>
       show some (Sp.sub s n v e).2.2=some e.2.2;unfold Sp.sub;rw[if_neg];intro z;have e1:=Sp.c3.mp z;have e2:=Sp.c3.mp hp;rw[e1]at e2;injection e2 with e2 e3
       exact hne ⟨e2.symm,e3.symm⟩
      |false=>exact ih
    exact this l
  |false=>
   rw[hq]at h;cases hp:Sp.hit i m e with
   |true=>
    have hne:¬(i=s∧m=n):=λ⟨a,b⟩=>by rw[a,b,hq]at hp;cases hp
    rw[if_neg hne];show some (Sp.sub s n v e).2.2=some e.2.2;unfold Sp.sub;rw[if_neg (by rw[hq];exact Bool.false_ne_true)]
   |false=>exact z7 i m h
theorem qA(d:SD)(n v:Bytes)(i:Nat)(m:Bytes):textIn (Stencil.put d n v) i m=if i=d.here∧m=n then some v else textIn d i m:=by
 cases h:textIn d d.here n with
 |none=>
  rw[Sp.o9 h,Sp.dZ,Sp.dZ];show((d.texts++[(d.here,(n,v))]).find? (Sp.hit i m)).map _=_;rw[List.find?_append];cases hf:d.texts.find? (Sp.hit i m)with
  |some e=>
   rw[if_neg]
   ·rfl
   ·rintro⟨rfl,rfl⟩;rw[Sp.dZ,hf]at h;cases h
  |none=>
   rw[Option.none_or,List.find?_cons];cases hh:Sp.hit i m (d.here,(n,v))with
   |true=>
    have:=Sp.c3.mp hh;injection this with e1 e2
    rw[if_pos ⟨e1.symm,e2.symm⟩];rfl
   |false=>
    rw[if_neg]
    ·rfl
    ·rintro⟨rfl,rfl⟩;rw[show Sp.hit d.here m (d.here,(m,v))=true from Sp.c3.mpr rfl]at hh;cases hh
 |some t=>
  rw[Sp.o8 (by rw[h];rfl),Sp.dZ,Sp.dZ]
  rw[Sp.dZ,Option.map_eq_some_iff]at h;obtain⟨e,he,_⟩:=h;exact z7 i m he
theorem ux(d:SD)(n v:Bytes)(i:Nat)(m:Bytes):itemsIn (Stencil.put d n v) i m=itemsIn d i m:=by
 unfold itemsIn;rw[Sp.jh]
theorem p6(d:SD)(n v:Bytes):d.texts.length≤(Stencil.put d n v).texts.length∧(textIn d d.here n=none→(Stencil.put d n v).texts.length=d.texts.length+1):=by
 cases h:textIn d d.here n with
 |none=>
  rw[Sp.o9 h];exact⟨by show _≤(d.texts++[_]).length;rw[List.length_append];exact Nat.le_add_right _ _,λ_=>by show(d.texts++[_]).length=_;rw[List.length_append];rfl⟩
 |some t=>
  rw[Sp.o8 (by rw[h];rfl)]
  exact⟨by show _≤(d.texts.map _).length;rw[List.length_map];exact Nat.le_refl _,λz=>by cases z⟩
theorem FJ{d:SD}{n v:Bytes}{k:Nat}(h:∀e∈d.texts,e.1≤k)(hh:d.here≤k):∀e∈(Stencil.put d n v).texts,e.1≤k:=by
 cases ht:textIn d d.here n with
 |none=>
  rw[Sp.o9 ht];intro e he;rcases List.mem_append.mp (show e∈d.texts++[(d.here,(n,v))]from he)with m|m
  ·exact h e m
  ·rw[List.mem_singleton.mp m];exact hh
 |some t=>
  rw[Sp.o8 (by rw[ht];rfl)]
  intro e he;obtain⟨e0,h0,rfl⟩:=List.mem_map.mp (show e∈d.texts.map (Sp.sub d.here n v)from he);have:=congrArg Prod.fst (Sp.yH d.here n v e0);have e1:(Sp.sub d.here n v e0).1=e0.1:=this;rw[e1];exact h e0 h0
theorem ym{κ:Type}[DecidableEq κ]{kvs:List (κ×V)}{k:κ}{v w:V}(h:dY kvs k=some w):(putK kvs k v).length=kvs.length:=by
 unfold putK;rw[if_pos (by rw[nI,h];rfl),List.length_map]
theorem cu.kp{H H':Hp}{a:Addr}{v:List Int}(h:cu c H a v)(k1:∀b dx fs,H b=some (.ins c.Text dx fs)→fs.lookup ("trail":Str)=none→H' b=some (.ins c.Text dx fs))(k2:∀b kvs,H b=some (.dK kvs)→H' b=some (.dK kvs))(k3:∀b(l:List Int),H b=some (.lst (l.map V.int))→H' b=some (.lst (l.map V.int))):cu c H' a v:=by
 obtain⟨dx,wd,l1,l2,l3,e1,e2,e3,e4,e5⟩:=h;exact⟨dx,wd,l1,l2,l3,k1 _ _ _ e1 rfl,k2 _ _ e2,k3 _ _ e3,k3 _ _ e4,k3 _ _ e5⟩
theorem y6.kp{H H':Hp}{o:Option V}{t:Option Bytes}(h:y6 c H o t)(k:∀a v,cu c H a v→cu c H' a v):y6 c H' o t:=by
 cases o<;>cases t
 ·trivial
 ·exact h
 ·exact h
 ·obtain⟨a,e,h⟩:=h;exact⟨a,e,k _ _ h⟩
theorem pd{l:List Int}{y:Addr}{ys:List V}:HO.lst (l.map V.int)≠HO.lst (.ref y::ys):=by
 intro h;injection h with h
 cases l with
 |nil=>cases h
 |cons _ _=>cases h
theorem sQ(x:SX)(d:SD):∃y ys,(0::d.opened.reverse).map x.at=.ref y::ys:=⟨_,_,rfl⟩
theorem lookup_mem{α β:Type}[BEq α][LawfulBEq α]{l:List (α×β)}{a:α}{b:β}(h:l.lookup a=some b):(a,b)∈l:=by
 induction l with
 |nil=>cases h
 |cons p l ih=>
  obtain⟨k,v⟩:=p;rw[List.lookup_cons]at h
  split at h
  ·rename_i e;rw[eq_of_beq e]at*;injection h with h;subst h
   exact List.mem_cons_self
  ·exact List.mem_cons_of_mem _ (ih h)
theorem aH.put{H H2:Hp}{x:SX}{d:SD}{q:SCA}{kvs:List (List Key×V)}{n v:Bytes}{dx a:Addr}(S:aH c H x d)(hs:H x.s=some (.ins c.Store dx (nF x d)))(hq:x.scs[d.here]?=some q)(hk:H q.td=some (.dT kvs))(hkl:kvs.length≤d.texts.length)(hkr:∀n,y6 c H (dY kvs (kb n)) (textIn d d.here n))
  (hx:itemsIn d d.here n=[])(hf:count (Stencil.put d n v)≤32∧bytesOf (Stencil.put d n v)≤512)(s2:aE (upd H x.s (.ins c.Store dx (nF x (Stencil.put d n v)))) H2)(TA:cu c H2 a (i8 v)):
  aH c (upd H2 q.td (.dT (putK kvs (kb n) (.ref a)))) x (Stencil.put d n v):=by
 have D:=dst S.nd;have hqm:=List.mem_of_getElem? hq;have kp:∀b o,H b=some o→b≠x.s→b≠q.td→upd H2 q.td (.dT (putK kvs (kb n) (.ref a))) b=some o:=λb o e n1 n2=>by
  rw[ae n2];exact s2 _ _ (by rw[ae n1];exact e)
 have kT:∀a' w,cu c H a' w→cu c (upd H2 q.td (.dT (putK kvs (kb n) (.ref a)))) a' w:=λa' w h=>
  h.kp (λb dxx fs e z=>kp _ _ e (aF e hs (dW "trail" z rfl)) (aF e hk (by intro z;cases z))) (λb k e=>kp _ _ e (aF e hs (by intro z;cases z)) (aF e hk (by intro z;cases z))) (λb l e=>kp _ _ e (aF e hs (by intro z;cases z)) (aF e hk (by intro z;cases z)))
 have TA':cu c (upd H2 q.td (.dT (putK kvs (kb n) (.ref a)))) a (i8 v):=by
  have hk2:H2 q.td=some (.dT kvs):=s2 _ _ (by rw[ae (D.std q hqm).1.symm];exact hk)
  exact TA.kp (λb dxx fs e z=>by rw[ae (aF e hk2 (by intro z;cases z))];exact e) (λb k e=>by rw[ae (aF e hk2 (by intro z;cases z))];exact e) (λb l e=>by rw[ae (aF e hk2 (by intro z;cases z))];exact e)
 obtain⟨y0,ys0,hy0⟩:=sQ x d;refine⟨⟨dx,?_⟩,?_,?_,λi q' e=>?_,λi q' e=>?_,λi q' e=>?_,λi m=>?_,?_,?_,S.nd,S.nda,S.tok.put n v,hf,λi m h=>?_,?_,?_,λp hp=>?_⟩
 ·rw[ae (D.std q hqm).1];exact s2 _ _ af
 ·rw[Sp.qM];exact kp _ _ S.tr D.str.symm (D.std q hqm).2.2.1
 ·rw[Sp.jh];exact S.len
 ·obtain⟨dq,e2⟩:=S.scope i q' e;exact⟨dq,kp _ _ e2 (aF e2 hs (dW "trail" rfl rfl)) (aF e2 hk (by intro z;cases z))⟩
 ·by_cases hi:i=d.here
  ·subst hi;have:q'=q:=Option.some.inj (e.symm.trans hq);subst this;refine⟨_,af,?_,λm=>?_⟩
   ·obtain⟨l1,l2⟩:=p6 d n v;cases ht:textIn d d.here n with
    |none=>
     have:=iK kvs (kb n) (.ref a);rw[l2 ht];omega
    |some t=>
     have g:=hkr n;rw[ht]at g;cases hv:dY kvs (kb n)with
     |none=>rw[hv]at g;exact g.elim
     |some w=>rw[ym hv];omega
   ·rw[za,qA]
    by_cases hm:m=n
    ·subst hm;rw[if_pos rfl,if_pos ⟨rfl,rfl⟩];exact⟨a,rfl,TA'⟩
    ·rw[if_neg (λz=>hm (EA z)),if_neg (λz=>hm z.2)];exact(hkr m).kp kT
  ·obtain⟨k',e1,e2,e3⟩:=S.texts i q' e;have hm':=List.mem_of_getElem? e;refine⟨k',kp _ _ e1 (D.std q' hm').1.symm (λz=>hi (Ko D.tds e hq z)),Nat.le_trans e2 (p6 d n v).1,λm=>?_⟩;rw[qA,if_neg (λz=>hi z.1)];exact(e3 m).kp kT
 ·obtain⟨k',e1,e2,e3⟩:=S.lists i q' e;have hm':=List.mem_of_getElem? e;refine⟨k',kp _ _ e1 (D.std q' hm').2.1.symm (D.tdl q hqm q' hm').symm,by rw[Sp.jh];exact e2,e3⟩
 ·rw[ux];rcases S.li i m with h|⟨la,e1,e2,e3⟩
  ·exact .inl h
  ·have hm:=lookup_mem e1;exact .inr ⟨la,e1,e2,kp _ _ e3 (D.sla _ hm).1.symm (D.tla q hqm _ hm).1.symm⟩
 ·rw[Sp.qM,Sp.jh];exact S.opened
 ·rw[Sp.qM];exact S.deep
 ·rw[ux];rw[qA]at h
  by_cases hm:i=d.here∧m=n
  ·rw[hm.1,hm.2];exact hx
  ·rw[if_neg hm]at h;exact S.excl i m h
 ·rw[Sp.jh];exact FJ S.tin S.pq
 ·rw[Sp.jh];exact S.par
 ·obtain⟨y,ys,e⟩:=S.kinds p hp;exact⟨y,ys,kp _ _ e (D.sla p hp).1.symm (D.tla q hqm p hp).1.symm⟩
end
section
open Stencil (textIn itemsIn near known valueOf holdsIn Bytes count bytesOf fitsIn isName)
open Sp (i8)
def mh(d:SD)(n v:Bytes):SD×Int:=if isName n=false∨(itemsIn d d.here n).isEmpty=false then(d,-1)else if 64<v.length∨fitsIn (Stencil.put d n v)=false then(d,-2)else(Stencil.put d n v,0)
def JF(c:Cs):Sp:=λvs H Q _=>∃(x:SX)(d:SD)(na ra:Addr)(n v:Bytes),vs=[.ref x.s,.ref na,.ref ra]∧aH c H x d∧H na=some (.lst ((i8 n).map V.int))∧H ra=some (.lst ((i8 v).map V.int))∧n.length≤100000∧
 ∀H',Up x H x H'→aH c H' x (mh d n v).1→Q (.int (mh d n v).2) H'
theorem rO(T:Txt K mg c):bU P w K mg base c.Store "put_text" ["self","name","row"] 6 (JF c):=by
 refine T.ly.has (k:=5) fR (λvs H Q E h=>?_) (λfa cdv A outer sh0 H vs Q E hr h=>?_)
 ·obtain⟨x,d,na,ra,n,v,rfl,_⟩:=h;rfl
 ·obtain⟨x,d,na,ra,n,v,rfl,S,hna,hra,hz,k⟩:=h;obtain⟨dx,hs⟩:=S.self;have D:=dst S.nd;refine⟨_,(ag (aI (i:=3) fR.nd rfl (Or.inl rfl) (dz bD (ak (pv 0) rfl) (dN cf aA) (λ_ _=>rfl))) (ag (aI (i:=4) fR.nd rfl (Or.inl rfl) (tE kS (by rfl) T.ve PyProof.Rows.boot_tuple (aa (pv 1) ai))) (ag (aP (ue (mi (dk (pf (vO T) hr nox (aa (pv 1) ai)))) (qL (n8 (qO (jI hr) (pv 4) (ak (pv 3) rfl))))).pt (ah (ay (dN cf aA))) aO) (ag (aP (ue (az p8 (aK aD (by rfl) T.b8 PySem.boot_len (aa (pv 2) ai)) (pg T.oU) (aB _)) (qL (mi (dk (pm (jc T) hr nox (pv 0) (aa (pv 4) (aa (pv 2) ai))))))).pt (ah (ay (dN cf aA))) aO) (ag (BQ (jI hr) (ak (pv 3) rfl) (pv 4) (pmk (yA T) hr nox (aa (pv 2) ai)) rfl) (ah (ay aA))))))),?_⟩
  try dsimp only[aM]
  obtain⟨q,dq,hq,ea,hqa⟩:=S.sc S.pq;walk_at"rd";refine bB T hs ?_;walk_at"rd";refine⟨x.tr,_,_,_,rfl,rfl,SqL.of S.tr,jg (va d x) (sR d x),?_⟩;rw[ea];walk_at"rd";refine⟨na,_,rfl,.inl ⟨SqL.of hna,λka hka=>?_⟩⟩;have s1:=ao (o:=.tup ((i8 n).map V.int)) hka;have S1:=S.same s1;walk_at"rd";refine⟨na,i8 n,rfl,SqL.of (s1 _ _ hna),by rw[Sp.aQ];exact Nat.lt_of_le_of_lt hz (by decide),λH2 s2=>?_⟩
  have s12:=s1.trans s2;have S2:=S.same s12;have hka2:=s2 _ _ (af (H:=H) (a:=ka) (o:=.tup ((i8 n).map V.int)));have hs2:=s12 _ _ hs;have hqa2:=s12 _ _ hqa;have hra2:=s12 _ _ hra;rw[z9];refine bR ?_;unfold mh at k;have km1:(isName n=false∨(itemsIn d d.here n).isEmpty=false)→∀H',aE H H'→Q (.int (-1)) H':=λh H' s=>by
   rw[if_pos h]at k;exact k H' ⟨rfl,Fr.of s,λ_ h=>.inl h⟩ (S.same s)
  cases hn:isName n with
  |false=>
   walk_at"rd";exact km1 (.inl hn) _ s12
  |true=>
   walk_at"rd";refine dM T hqa2 ?_;obtain⟨ol,g3,g4,_⟩:=S2.inL hq hka2;refine⟨q.ld,ol,rfl,g3,?_⟩;refine bR ?_;rw[g4];cases hL:(itemsIn d d.here n).isEmpty with
   |false=>
    walk_at"rd";exact km1 (.inr hL) _ s12
   |true=>
    rw[if_neg (by rintro(z|z);rw[hn]at z;cases z;rw[hL]at z;cases z)]at k
    walk_at"rd";refine⟨ra,_,rfl,.inl (SqL.of hra2),?_⟩;rw[List.length_map,Sp.aQ];have km2:(64<v.length∨fitsIn (Stencil.put d n v)=false)→∀H',aE H H'→Q (.int (-2)) H':=λh H' s=>by
     rw[if_pos h]at k;exact k H' ⟨rfl,Fr.of s,λ_ h=>.inl h⟩ (S.same s)
    refine r_c (uO (bR ?_));refine cj (λhb=>?_) (λhb=>?_)
    ·rw[decide_eq_true_eq]at hb;walk_at"rd";exact km2 (.inl (by omega)) _ s12
    ·rw[decide_eq_false_iff_not]at hb;walk_at"rd";refine eT hs2 ?_ rfl;walk_at"rd";refine⟨x,d,ka,ra,dx,n,v,rfl,S2,hs2,hka2,hra2,λhf=>?_,λhf=>?_⟩
     ·walk_at"rd";exact km2 (.inr hf) _ s12
     ·rw[if_neg (by rintro(z|z);omega;rw[hf]at z;cases z)]at k
      refine bR ?_;refine v7 ?_;refine bw ?_;refine cb (aS (AD ?_));refine nX ?_;walk_at"rd";intro a d3 ha hd nd;have hqm:=List.mem_of_getElem? hq;have nras:ra≠x.s:=aF hra2 hs2 (by intro z;cases z)
      have hra3:upd H2 x.s (.ins c.Store dx (nF x (Stencil.put d n v))) ra=some (.lst ((i8 v).map V.int)):=by rw[ae nras];exact hra2
      refine⟨a,d3,ra,upd (upd H2 x.s (.ins c.Store dx (nF x (Stencil.put d n v)))) d3 (.own a),i8 v,rfl,rfl,by rw[ae nd.symm];exact ha,by rw[ae (aw hra3 hd)];exact hra3,by rw[Sp.aQ];omega,λH4 s4 TA=>⟨rfl,?_⟩⟩
      have s3:aE (upd H2 x.s (.ins c.Store dx (nF x (Stencil.put d n v)))) H4:=(ao hd).trans s4;obtain⟨kvs,e1,e2,e3⟩:=S2.texts d.here q hq;have hqa4:H4 q.a=some (.ins c.Scope dq (ko (.ref q.td) (.ref q.ld))):=s3 _ _ (by rw[ae (aF hqa2 hs2 (dW "trail" rfl rfl))];exact hqa2)
      have hka4:H4 ka=some (.tup ((kb n).map kV)):=by rw[zV];exact s3 _ _ (by rw[ae (aF hka2 hs2 (by intro z;cases z))];exact hka2)
      have htd4:H4 q.td=some (.dT kvs):=s3 _ _ (by rw[ae (D.std q hqm).1.symm];exact e1)
      walk_at"rd";refine cg T hqa4 ?_;walk_at"rd";refine⟨q.td,_,rfl,y8.t htd4 hka4 (Nat.lt_of_le_of_lt e2 (Nat.lt_of_le_of_lt (show d.texts.length≤32 from by have:=S.fit.1;unfold count at this;omega) (by decide))),?_⟩
      walk_at"rd";have hfits:=(Sp.oK _).mp hf;refine k _ ⟨rfl,λb o e hb=>?_,λ_ h=>.inl h⟩ (S2.put hs2 hq e1 e2 e3 (List.isEmpty_iff.mp hL) hfits s3 TA);have m1:b≠x.s:=λz=>hb (by rw[z];exact List.mem_cons_self)
      have m2:b≠q.td:=λz=>hb (by rw[z];exact List.mem_cons_of_mem _ (List.mem_cons_of_mem _ (List.mem_append_left _ (List.mem_map.mpr ⟨q,hqm,rfl⟩))))
      rw[ae m2];exact s3 _ _ (by rw[ae m1];exact s12 _ _ e)
def gw(d:SD):SD×Int:=match d.opened with
 |[]=>(d,-1)
 |_::r=>({d with opened:=r},0)
def Ft(c:Cs):Sp:=λvs H Q _=>∃(x:SX)(d:SD),vs=[.ref x.s]∧aH c H x d∧∀H',Up x H x H'→aH c H' x (gw d).1→Q (.int (gw d).2) H'
theorem pK(T:Txt K mg c):bU P w K mg base c.Store "close_item" ["self"] 2 (Ft c):=by
 refine T.jF.has (k:=1) pE (λvs H Q E h=>?_) (λfa cdv A outer sh0 H vs Q E hr h=>?_)
 ·obtain⟨x,d,rfl,_⟩:=h;rfl
 ·obtain⟨x,d,rfl,S,k⟩:=h;obtain⟨dx,hs⟩:=S.self;have D:=dst S.nd;refine⟨_,(ag (aP (mi (dk (pm0 (fY T) hr nox (pv 0)))) (ah (ay (dN cf aA))) aO) (ag (ax (vH PySem.F.plainAttrs_list PySem.F.slot_list_pop PySem.F.type_list_pop vV (ak (pv 0) rfl))) (ah (ay aA)))),?_⟩
  try dsimp only[aM]
  walk_at"rd";refine eT hs ?_ rfl;walk_at"rd";refine⟨x,d,rfl,S,?_⟩;unfold gw at k;refine bR ?_;cases ho:d.opened with
  |nil=>
   rw[ho]at k;show if(!!true)=true then _ else _
   refine ite_true ?_;walk_at"rd";exact k H (Up.refl x H) S
  |cons j r=>
   rw[ho]at k;show if(!!false)=true then _ else _
   refine ite_false ?_;walk_at"rd";refine bB T hs ?_;refine tyL S.tr ?_;refine⟨x.tr,_,_,rfl,rfl,S.tr,va d x,?_⟩;walk_at"rd";have et:((0::d.opened.reverse).map x.at).dropLast=(0::r.reverse).map x.at:=by
    rw[ho,List.reverse_cons,←List.cons_append,List.map_append];exact List.dropLast_concat
   rw[et];have kp:∀b o,H b=some o→b≠x.tr→upd H x.tr (.lst ((0::r.reverse).map x.at)) b=some o:=λb o e n=>by rw[ae n];exact e
   obtain⟨y0,ys0,hy0⟩:=sQ x d;have htr:=S.tr;rw[hy0]at htr;have kT:∀a' w,cu c H a' w→cu c (upd H x.tr (.lst ((0::r.reverse).map x.at))) a' w:=λa' w h=>
    h.kp (λb dxx fs e z=>kp _ _ e (aF e htr (by intro z;cases z))) (λb k e=>kp _ _ e (aF e htr (by intro z;cases z))) (λb l e=>kp _ _ e (aF e htr pd))
   refine k _ ⟨rfl,ff (List.mem_cons_of_mem _ List.mem_cons_self),λ_ h=>.inl h⟩ ⟨⟨dx,kp _ _ hs D.str⟩,af,S.len,λi q e=>?_,λi q e=>?_,λi q e=>?_,λi n=>?_,λi hi=>S.opened i (by rw[ho];exact List.mem_cons_of_mem _ hi),?_,S.nd,S.nda,S.tok,S.fit,S.excl,S.tin,S.par,λp hp=>?_⟩
   ·obtain⟨d1,e1⟩:=S.scope i q e;exact⟨d1,kp _ _ e1 (aF e1 htr (by intro z;cases z))⟩
   ·obtain⟨k1,e1,e2,e3⟩:=S.texts i q e;exact⟨k1,kp _ _ e1 (D.std q (List.mem_of_getElem? e)).2.2.1.symm,e2,λn=>(e3 n).kp kT⟩
   ·obtain⟨k1,e1,e2⟩:=S.lists i q e;exact⟨k1,kp _ _ e1 (D.std q (List.mem_of_getElem? e)).2.2.2.symm,e2⟩
   ·rcases S.li i n with h|⟨la,e1,e2,e3⟩
    ·exact .inl h
    ·exact .inr ⟨la,e1,e2,kp _ _ e3 (D.sla _ (lookup_mem e1)).2.symm⟩
   ·have:=S.deep;rw[ho]at this;show r.length≤16;simp at this;omega
   ·obtain⟨y,ys,e⟩:=S.kinds p hp;exact⟨y,ys,kp _ _ e (D.sla p hp).2.symm⟩
end
section
open Stencil (textIn itemsIn near known valueOf holdsIn Bytes count bytesOf fitsIn isName)
open Sp (i8)
theorem sf(d:SD)(n:Bytes)(i:Nat)(m:Bytes):itemsIn (Stencil.openItem d n) i m=itemsIn d i m++(if i=d.here∧m=n then[d.items.length+1]else[]):=by
 unfold itemsIn Stencil.openItem;show((List.range (d.items++[(d.here,n)]).length).filter λj=>(d.items++[(d.here,n)])[j]?==some (i,m)).map _=_;rw[List.length_append,show d.items.length+[(d.here,n)].length=d.items.length+1 from rfl,List.range_succ,List.filter_append,List.map_append]
 congr 1
 ·congr 1
  refine List.filter_congr λj hj=>?_;rw[List.getElem?_append_left (List.mem_range.mp hj)]
 ·rw[List.filter_cons,List.filter_nil,List.getElem?_append_right (Nat.le_refl _),Nat.sub_self];show((if(some (d.here,n)==some (i,m))=true then[d.items.length]else[]).map _)=_
  by_cases h:i=d.here∧m=n
  ·obtain⟨rfl,rfl⟩:=h;rw[if_pos (beq_self_eq_true _),if_pos ⟨rfl,rfl⟩];rfl
  ·rw[if_neg h,if_neg (λz=>h (by
    have:=eq_of_beq z;injection this with this
    injection this with a b
    exact⟨a.symm,b.symm⟩))];rfl
theorem Fv{α β:Type}{l:List (α×β)}(h:(l.map (·.2)).Nodup){p q:α×β}(hp:p∈l)(hq:q∈l)(e:p.2=q.2):p=q:=by
 obtain⟨i,hi⟩:=List.getElem?_of_mem hp;obtain⟨j,hj⟩:=List.getElem?_of_mem hq;have:i=j:=Em h (by rw[List.getElem?_map,hi];rfl) (by rw[List.getElem?_map,hj];show some q.2=some p.2;rw[e])
 subst this;rw[hi]at hj;injection hj
theorem E0{x:SX}{q:SCA}{li:List ((Nat×Bytes)×Addr)}{j:Nat}(h:j<x.scs.length):SX.at ⟨x.s,x.tr,x.scs++[q],li⟩ j=x.at j:=by
 unfold SX.at;show V.ref (((x.scs++[q])[j]?.map _).getD 0)=_;rw[List.getElem?_append_left h]
theorem Jh{x:SX}{q:SCA}{li:List ((Nat×Bytes)×Addr)}:SX.at ⟨x.s,x.tr,x.scs++[q],li⟩ x.scs.length=.ref q.a:=by
 unfold SX.at;show V.ref (((x.scs++[q])[x.scs.length]?.map _).getD 0)=_;rw[List.getElem?_append_right (Nat.le_refl _),Nat.sub_self];rfl
theorem ow{d:SD}{i:Nat}{n:Bytes}{j:Nat}(h:j∈itemsIn d i n):1≤j∧j≤d.items.length∧d.items[j-1]?=some (i,n):=by
 unfold itemsIn at h;obtain⟨k,hk,rfl⟩:=List.mem_map.mp h;rw[List.mem_filter,List.mem_range]at hk;exact⟨Nat.le_add_left _ _,hk.1,by rw[Nat.add_sub_cancel];exact eq_of_beq hk.2⟩
theorem wR{d:SD}{i:Nat}{n:Bytes}(par:∀(j:Nat)(e:Nat×Bytes),d.items[j]?=some e→e.1≤j)(h:d.items.length<i):itemsIn d i n=[]:=by
 cases e:itemsIn d i n with
 |nil=>rfl
 |cons j r=>
  have:=ow (d:=d) (i:=i) (n:=n) (j:=j) (by rw[e];exact List.mem_cons_self)
  have:=par _ _ this.2.2;simp only at this;omega
theorem ya{d:SD}{i:Nat}{n:Bytes}(tin:∀e∈d.texts,e.1≤d.items.length)(h:d.items.length<i):textIn d i n=none:=by
 cases e:textIn d i n with
 |none=>rfl
 |some t=>
  rw[Sp.dZ,Option.map_eq_some_iff]at e;obtain⟨a,ha,_⟩:=e;have h1:=tin a (List.mem_of_find?_eq_some ha);have h2:=Sp.c3.mp (List.find?_some ha);have:a.1=i:=congrArg Prod.fst h2;omega
theorem tZ(d:SD)(n:Bytes)(i:Nat)(m:Bytes):textIn (Stencil.openItem d n) i m=textIn d i m:=rfl
theorem aH.opens{H H5:Hp}{x:SX}{d:SD}{q q':SCA}{kvs':List (List Key×V)}{n:Bytes}{dx dx' lp:Addr}{li':List ((Nat×Bytes)×Addr)}(S:aH c H x d)(hs:H x.s=some (.ins c.Store dx (nF x d)))(hq:x.scs[d.here]?=some q)
  (ht:textIn d d.here n=none)(hdeep:d.opened.length<16)(hf:count (Stencil.openItem d n)≤32∧bytesOf (Stencil.openItem d n)≤512)
  (hli:∀i m,li'.lookup (i,m)=if i=d.here∧m=n then some lp else x.li.lookup (i,m))(D':Dst ⟨x.s,x.tr,x.scs++[q'],li'⟩)(nda':((x.scs++[q']).map (·.a)).Nodup)(ki:∀p∈li',∃y ys,H5 p.2=some (.lst (.ref y::ys)))
  (kp:∀b o,H b=some o→b≠x.s→b≠x.tr→b≠q.ld→b≠lp→H5 b=some o)(lpk:∀o,H lp=some o→∃y ys,o=.lst (.ref y::ys))
  (h1:H5 x.s=some (.ins c.Store dx (nF x (Stencil.openItem d n))))(h2:H5 x.tr=some (.lst ((0::d.opened.reverse).map x.at++[.ref q'.a])))
  (h3:H5 q.ld=some (.dT kvs'))(h4:kvs'.length≤d.items.length+1)(h5:∀m,dY kvs' (kb m)=(li'.lookup (d.here,m)).map V.ref)(h6:H5 lp=some (.lst ((itemsIn d d.here n).map x.at++[.ref q'.a])))
  (h7:H5 q'.a=some (.ins c.Scope dx' (ko (.ref q'.td) (.ref q'.ld))))(h8:H5 q'.td=some (.dT []))(h9:H5 q'.ld=some (.dT [])):
  aH c H5 ⟨x.s,x.tr,x.scs++[q'],li'⟩ (Stencil.openItem d n):=by
 have D:=dst S.nd;have hqm:=List.mem_of_getElem? hq;have hlen:=S.len;have hlook:li'.lookup (d.here,n)=some lp:=by rw[hli,if_pos ⟨rfl,rfl⟩]
 obtain⟨y0,ys0,hy0⟩:=sQ x d;have htr:=S.tr;rw[hy0]at htr;obtain⟨kvs0,hld0,_,_⟩:=S.lists d.here q hq;have nlp:∀b o,H b=some o→(∀y ys,o≠.lst (.ref y::ys))→b≠lp:=λb o e h z=>by
  rw[z]at e;obtain⟨y,ys,e2⟩:=lpk o e;exact h y ys e2
 have kT:∀a' w,cu c H a' w→cu c H5 a' w:=λa' w h=>
  h.kp (λb dxx fs e z=>kp _ _ e (aF e hs (dW "trail" z rfl)) (aF e htr (by intro z;cases z)) (aF e hld0 (by intro z;cases z)) (nlp _ _ e (by intro _ _ z;cases z)))
   (λb k e=>kp _ _ e (aF e hs (by intro z;cases z)) (aF e htr (by intro z;cases z)) (aF e hld0 (by intro z;cases z)) (nlp _ _ e (by intro _ _ z;cases z)))
   (λb l e=>kp _ _ e (aF e hs (by intro z;cases z)) (aF e htr pd) (aF e hld0 (by intro z;cases z)) (nlp _ _ e λ_ _=>pd))
 have old:∀(i:Nat)(r:SCA),(x.scs++[q'])[i]?=some r→(x.scs[i]?=some r∧i≤d.items.length)∨(r=q'∧i=d.items.length+1):=λi r e=>by
  rcases Nat.lt_or_ge i x.scs.length with hl|hl
  ·rw[List.getElem?_append_left hl]at e;exact .inl ⟨e,by omega⟩
  ·rw[List.getElem?_append_right hl]at e;have:i-x.scs.length=0:=by
    cases hh:i-x.scs.length with
    |zero=>rfl
    |succ k=>rw[hh]at e;simp at e
   rw[this]at e;have:q'=r:=Option.some.inj e;exact .inr ⟨this.symm,by omega⟩
 have items_at:∀i m,(itemsIn d i m).map (SX.at ⟨x.s,x.tr,x.scs++[q'],li'⟩)=(itemsIn d i m).map x.at:=λi m=>List.map_congr_left λj hj=>E0 (by rw[hlen];have:=(ow hj).2.1;omega)
 have new_at:SX.at ⟨x.s,x.tr,x.scs++[q'],li'⟩ (d.items.length+1)=.ref q'.a:=by rw[←hlen];exact Jh
 refine⟨⟨dx,h1⟩,?_,?_,λi r e=>?_,λi r e=>?_,λi r e=>?_,λi m=>?_,λj hj=>?_,?_,D'.nd,nda',S.tok,hf,λi m h=>?_,λe he=>?_,λj e he=>?_,ki⟩
 ·show H5 x.tr=_;rw[h2]
  congr 2
  show _=(0::((d.items.length+1)::d.opened).reverse).map _;rw[List.reverse_cons,←List.cons_append,List.map_append]
  congr 1
  ·refine List.map_congr_left λj hj=>(E0 (by
    rw[hlen];rcases List.mem_cons.mp hj with z|m
    ·omega
    ·have:=S.opened j (List.mem_reverse.mp m);omega)).symm
  ·show[V.ref q'.a]=[SX.at _ (d.items.length+1)];rw[new_at]
 ·show(x.scs++[q']).length=(d.items++[(d.here,n)]).length+1;rw[List.length_append,List.length_append,hlen];rfl
 ·rcases old i r e with⟨e,_⟩|⟨rfl,_⟩
  ·obtain⟨dq,e2⟩:=S.scope i r e;exact⟨dq,kp _ _ e2 (aF e2 hs (dW "trail" rfl rfl)) (aF e2 htr (by intro z;cases z)) (aF e2 hld0 (by intro z;cases z)) (nlp _ _ e2 (by intro _ _ z;cases z))⟩
  ·exact⟨dx',h7⟩
 ·rcases old i r e with⟨e,_⟩|⟨rfl,rfl⟩
  ·obtain⟨k1,e1,e2,e3⟩:=S.texts i r e;have hm:=List.mem_of_getElem? e;exact⟨k1,kp _ _ e1 (D.std r hm).1.symm (D.std r hm).2.2.1.symm (D.tdl r hm q hqm) (nlp _ _ e1 (by intro _ _ z;cases z)),e2,λm=>(e3 m).kp kT⟩
  ·refine⟨[],h8,Nat.zero_le _,λm=>?_⟩;rw[tZ,ya S.tin (Nat.lt_succ_self _)];exact True.intro
 ·have hl':(Stencil.openItem d n).items.length=d.items.length+1:=by
   show(d.items++[(d.here,n)]).length=_;rw[List.length_append];rfl
  rw[hl'];rcases old i r e with⟨e,_⟩|⟨rfl,rfl⟩
  ·by_cases hi:i=d.here
   ·subst hi;have:r=q:=Option.some.inj (e.symm.trans hq);subst this;exact⟨kvs',h3,h4,h5⟩
   ·obtain⟨k1,e1,e2,e3⟩:=S.lists i r e;have hm:=List.mem_of_getElem? e;refine⟨k1,kp _ _ e1 (D.std r hm).2.1.symm (D.std r hm).2.2.2.symm (λz=>hi (Kp D.lds e hq z)) (nlp _ _ e1 (by intro _ _ z;cases z)),by omega,λm=>?_⟩
    rw[e3 m];show _=(li'.lookup (i,m)).map V.ref;rw[hli,if_neg (λz=>hi z.1)]
  ·refine⟨[],h9,Nat.zero_le _,λm=>?_⟩;show none=(li'.lookup (d.items.length+1,m)).map V.ref;have hne:¬(d.items.length+1=d.here∧m=n):=λz=>by have:=S.pq;omega
   rw[hli,if_neg hne];rcases S.li (d.items.length+1) m with⟨e1,_⟩|⟨la,_,e2,_⟩
   ·rw[e1];rfl
   ·exact absurd (wR S.par (Nat.lt_succ_self _)) e2
 ·show(li'.lookup (i,m)=none∧_)∨∃la,li'.lookup (i,m)=some la∧_;rw[sf,List.map_append,items_at]
  by_cases hi:i=d.here∧m=n
  ·obtain⟨rfl,rfl⟩:=hi;rw[if_pos ⟨rfl,rfl⟩];refine .inr ⟨lp,hlook,by simp,?_⟩
   show H5 lp=some (.lst ((itemsIn d d.here m).map x.at++[SX.at _ (d.items.length+1)]));rw[new_at];exact h6
  ·rw[if_neg hi,List.append_nil,List.map_nil,List.append_nil,hli,if_neg hi];rcases S.li i m with h|⟨la,e1,e2,e3⟩
   ·exact .inl h
   ·refine .inr ⟨la,e1,e2,?_⟩;have hm:=lookup_mem e1;have hm':((i,m),la)∈li':=lookup_mem (by rw[hli,if_neg hi];exact e1)
    refine kp _ _ e3 (D.sla _ hm).1.symm (D.sla _ hm).2.symm (D.tla q hqm _ hm).2.symm λz=>hi ?_;have:=Fv D'.las hm' (lookup_mem hlook) z;injection this with this _
    injection this with a b
    exact⟨a,b⟩
 ·show j≤(d.items++[(d.here,n)]).length;rw[List.length_append];rcases List.mem_cons.mp (show j∈(d.items.length+1)::d.opened from hj)with z|m
  ·rw[z];exact Nat.le_refl _
  ·exact Nat.le_succ_of_le (S.opened j m)
 ·show((d.items.length+1)::d.opened).length≤16;rw[List.length_cons];exact hdeep
 ·rw[sf];rw[tZ]at h;rw[S.excl i m h,if_neg (by rintro⟨rfl,rfl⟩;rw[ht]at h;cases h)];rfl
 ·show e.1≤(d.items++[(d.here,n)]).length;rw[List.length_append];exact Nat.le_succ_of_le (S.tin e he)
 ·have he:(d.items++[(d.here,n)])[j]?=some e:=he;rcases Nat.lt_or_ge j d.items.length with hl|hl
  ·rw[List.getElem?_append_left hl]at he;exact S.par j e he
  ·rw[List.getElem?_append_right hl]at he;have:j-d.items.length=0:=by
    cases hh:j-d.items.length with
    |zero=>rfl
    |succ k=>rw[hh]at he;simp at he
   rw[this]at he;have:(d.here,n)=e:=Option.some.inj he;rw[←this];exact Nat.le_trans S.pq hl
end
section
open Stencil (textIn itemsIn near known valueOf holdsIn Bytes count bytesOf fitsIn isName)
open Sp (i8)
def jb(d:SD)(n:Bytes):SD×Int:=if isName n=false∨(textIn d d.here n).isSome=true∨16≤d.opened.length then(d,-1)else if fitsIn (Stencil.openItem d n)=false then(d,-2)else(Stencil.openItem d n,0)
def HC(c:Cs):Sp:=λvs H Q _=>∃(x:SX)(d:SD)(na:Addr)(n:Bytes),vs=[.ref x.s,.ref na]∧aH c H x d∧H na=some (.lst ((i8 n).map V.int))∧n.length≤100000∧
 ∀H' x',Up x H x' H'→aH c H' x' (jb d n).1→Q (.int (jb d n).2) H'
theorem mq{l:List Addr}{a b:Addr}(h:a∈l)(e:a=b):b∈l:=by rw[←e];exact h
theorem rS{α:Type}{l:List α}{a:α}(h:l.Nodup)(n:a∉l):(l++[a]).Nodup:=by
 rw[List.nodup_append];refine⟨h,by simp,λb hb c hc z=>n ?_⟩
 rw[List.mem_singleton]at hc;rw[←hc,←z];exact hb
theorem Dst.more{x:SX}{q':SCA}(D:Dst x)(f1:q'.td∉x.O)(f2:q'.ld∉x.O)(f3:q'.td≠q'.ld):Dst ⟨x.s,x.tr,x.scs++[q'],x.li⟩:=by
 have o1:x.s∈x.O:=List.mem_cons_self;have o2:x.tr∈x.O:=List.mem_cons_of_mem _ List.mem_cons_self;have o3:∀q∈x.scs,q.td∈x.O:=λq hq=>List.mem_cons_of_mem _ (List.mem_cons_of_mem _ (List.mem_append_left _ (List.mem_map.mpr ⟨q,hq,rfl⟩)));have o4:∀q∈x.scs,q.ld∈x.O:=λq hq=>List.mem_cons_of_mem _ (List.mem_cons_of_mem _ (List.mem_append_right _ (List.mem_append_left _ (List.mem_map.mpr ⟨q,hq,rfl⟩))));have o5:∀p∈x.li,p.2∈x.O:=λq hq=>List.mem_cons_of_mem _ (List.mem_cons_of_mem _ (List.mem_append_right _ (List.mem_append_right _ (List.mem_map.mpr ⟨q,hq,rfl⟩))));have sp:∀q∈x.scs++[q'],q∈x.scs∨q=q':=λq hq=>by
  rcases List.mem_append.mp hq with m|m
  ·exact .inl m
  ·exact .inr (List.mem_singleton.mp m)
 refine⟨D.str,λq hq=>?_,D.sla,λq hq q2 hq2=>?_,λq hq p hp=>?_,?_,?_,D.las⟩
 ·rcases sp q hq with m|rfl
  ·exact D.std q m
  ·exact⟨λz=>f1 (z▸o1),λz=>f2 (z▸o1),λz=>f1 (z▸o2),λz=>f2 (z▸o2)⟩
 ·rcases sp q hq with m|rfl
  ·rcases sp q2 hq2 with m2|rfl
   ·exact D.tdl q m q2 m2
   ·exactλz=>f2 (z▸o3 q m)
  ·rcases sp q2 hq2 with m2|rfl
   ·exactλz=>f1 (z▸o4 q2 m2)
   ·exact f3
 ·rcases sp q hq with m|rfl
  ·exact D.tla q m p hp
  ·exact⟨λz=>f1 (z▸o5 p hp),λz=>f2 (z▸o5 p hp)⟩
 ·show((x.scs++[q']).map _).Nodup;rw[List.map_append];refine rS D.tds λm=>?_;obtain⟨q,hq,e⟩:=List.mem_map.mp m;exact f1 (mq (o3 q hq) e)
 ·show((x.scs++[q']).map _).Nodup;rw[List.map_append];refine rS D.lds λm=>?_;obtain⟨q,hq,e⟩:=List.mem_map.mp m;exact f2 (mq (o4 q hq) e)
theorem Dst.Kd{x:SX}{k:Nat×Bytes}{p:Addr}(D:Dst x)(f:p∉x.O):Dst ⟨x.s,x.tr,x.scs,x.li++[(k,p)]⟩:=by
 have o1:x.s∈x.O:=List.mem_cons_self;have o2:x.tr∈x.O:=List.mem_cons_of_mem _ List.mem_cons_self;have o3:∀q∈x.scs,q.td∈x.O:=λq hq=>List.mem_cons_of_mem _ (List.mem_cons_of_mem _ (List.mem_append_left _ (List.mem_map.mpr ⟨q,hq,rfl⟩)));have o4:∀q∈x.scs,q.ld∈x.O:=λq hq=>List.mem_cons_of_mem _ (List.mem_cons_of_mem _ (List.mem_append_right _ (List.mem_append_left _ (List.mem_map.mpr ⟨q,hq,rfl⟩))));have o5:∀p∈x.li,p.2∈x.O:=λq hq=>List.mem_cons_of_mem _ (List.mem_cons_of_mem _ (List.mem_append_right _ (List.mem_append_right _ (List.mem_map.mpr ⟨q,hq,rfl⟩))));have sp:∀q∈x.li++[(k,p)],q∈x.li∨q=(k,p):=λq hq=>by
  rcases List.mem_append.mp hq with m|m
  ·exact .inl m
  ·exact .inr (List.mem_singleton.mp m)
 refine⟨D.str,D.std,λr hr=>?_,D.tdl,λq hq r hr=>?_,D.tds,D.lds,?_⟩
 ·rcases sp r hr with m|rfl
  ·exact D.sla r m
  ·exact⟨λz=>f (mq o1 z),λz=>f (mq o2 z)⟩
 ·rcases sp r hr with m|rfl
  ·exact D.tla q hq r m
  ·exact⟨λz=>f (mq (o3 q hq) z),λz=>f (mq (o4 q hq) z)⟩
 ·show((x.li++[(k,p)]).map _).Nodup;rw[List.map_append];refine rS D.las λm=>?_;obtain⟨q,hq,e⟩:=List.mem_map.mp m;exact f (mq (o5 q hq) e)
theorem uu{α β:Type}[BEq α][LawfulBEq α][DecidableEq α](l:List (α×β))(k:α)(p:β)(a:α)(h:l.lookup k=none):(l++[(k,p)]).lookup a=if a=k then some p else l.lookup a:=by
 induction l with
 |nil=>
  rw[List.nil_append,List.lookup_cons]
  by_cases e:a=k
  ·subst e;rw[if_pos rfl,beq_self_eq_true]
  ·rw[if_neg e,beq_eq_false_iff_ne.mpr e]
 |cons r l ih=>
  obtain⟨k0,v0⟩:=r;rw[List.cons_append,List.lookup_cons,List.lookup_cons];rw[List.lookup_cons]at h;cases hk:(k==k0)with
  |true=>rw[hk]at h;cases h
  |false=>
   rw[hk]at h;cases ha:(a==k0)with
   |true=>
    have:a≠k:=λz=>by rw[z,hk]at ha;cases ha
    rw[if_neg this]
   |false=>exact ih h
theorem aH.own{H:Hp}{x:SX}{d:SD}(S:aH c H x d){b:Addr}(h:b∈x.O):H b≠none:=by
 obtain⟨dx,hs⟩:=S.self;unfold SX.O at h;rcases List.mem_cons.mp h with z|h
 ·rw[z,hs];simp
 ·rcases List.mem_cons.mp h with z|h
  ·rw[z,S.tr];simp
  ·rcases List.mem_append.mp h with h|h
   ·obtain⟨q,hq,e⟩:=List.mem_map.mp h;obtain⟨i,hi⟩:=List.getElem?_of_mem hq;obtain⟨k,e1,_⟩:=S.texts i q hi;rw[←e,e1];simp
   ·rcases List.mem_append.mp h with h|h
    ·obtain⟨q,hq,e⟩:=List.mem_map.mp h;obtain⟨i,hi⟩:=List.getElem?_of_mem hq;obtain⟨k,e1,_⟩:=S.lists i q hi;rw[←e,e1];simp
    ·obtain⟨p,hp,e⟩:=List.mem_map.mp h;obtain⟨y,ys,e1⟩:=S.kinds p hp;rw[←e,e1];simp
theorem qS(T:Txt K mg c):bU P w K mg base c.Store "open_item" ["self","name"] 5 (HC c):=by
 refine T.kg.has (k:=4) cX (λvs H Q E h=>?_) (λfa cdv A outer sh0 H vs Q E hr h=>?_)
 ·obtain⟨x,d,na,n,rfl,_⟩:=h;rfl
 ·obtain⟨x,d,na,n,rfl,S,hna,hz,k⟩:=h;obtain⟨dx,hs⟩:=S.self;have D:=dst S.nd;refine⟨_,(ag (aI (i:=2) cX.nd rfl (Or.inl rfl) (dz bD (ak (pv 0) rfl) (dN cf aA) (λ_ _=>rfl))) (ag (aI (i:=3) cX.nd rfl (Or.inl rfl) (tE kS (by rfl) T.ve PyProof.Rows.boot_tuple (aa (pv 1) ai))) (ag (aP (ue (mi (dk (pf (vO T) hr nox (aa (pv 1) ai)))) (ue (n8 (qO (jI hr) (pv 3) (ak (pv 2) rfl))) (qL (az p8 (aK aD (by rfl) T.b8 PySem.boot_len (aa (ak (pv 0) rfl) ai)) (pg T.kz) (aB _))))).pt (ah (ay (dN cf aA))) aO) (ag (aP (mi (dk (pm (fb T) hr nox (pv 0) (aa aA (aa (aK aD (by rfl) T.b8 PySem.boot_len (aa (pv 3) ai)) ai))))) (ah (ay (dN cf aA))) aO) (ag (aI (i:=4) cX.nd rfl (Or.inl rfl) (D8 (qc T) hr nox)) (ag (ax (dO PySem.F.plainAttrs_list PySem.F.slot_list_append PySem.F.type_list_append bq (FW (jI hr) (ak (pv 2) rfl) (pv 3) (aU ai) ⟨rfl,rfl,rfl,rfl⟩) (aa (pv 4) ai))) (ag (ax (dO PySem.F.plainAttrs_list PySem.F.slot_list_append PySem.F.type_list_append bq (ak (pv 0) rfl) (aa (pv 4) ai))) (ah (ay aA))))))))),?_⟩
  try dsimp only[aM]
  obtain⟨q,dq,hq,ea,hqa⟩:=S.sc S.pq;have hqm:=List.mem_of_getElem? hq;walk_at"rd";refine bB T hs ?_;walk_at"rd";refine⟨x.tr,_,_,_,rfl,rfl,SqL.of S.tr,jg (va d x) (sR d x),?_⟩;rw[ea];walk_at"rd";refine⟨na,_,rfl,.inl ⟨SqL.of hna,λka hka=>?_⟩⟩;have s1:=ao (o:=.tup ((i8 n).map V.int)) hka;walk_at"rd";refine⟨na,i8 n,rfl,SqL.of (s1 _ _ hna),by rw[Sp.aQ];exact Nat.lt_of_le_of_lt hz (by decide),λH2 s2=>?_⟩
  have s12:=s1.trans s2;have S2:=S.same s12;have hka2:=s2 _ _ (af (H:=H) (a:=ka) (o:=.tup ((i8 n).map V.int)));have hs2:=s12 _ _ hs;have hqa2:=s12 _ _ hqa;rw[z9];refine bR ?_;unfold jb at k;have km1:(isName n=false∨(textIn d d.here n).isSome=true∨16≤d.opened.length)→∀H',aE H H'→Q (.int (-1)) H':=λh H' s=>by
   rw[if_pos h]at k;exact k H' x ⟨rfl,Fr.of s,λ_ h=>.inl h⟩ (S.same s)
  cases hn:isName n with
  |false=>
   walk_at"rd";exact km1 (.inl hn) _ s12
  |true=>
   walk_at"rd";refine cg T hqa2 ?_;obtain⟨ot,g1,g2⟩:=S2.inT hq hka2;refine⟨q.td,ot,rfl,g1,?_⟩;refine bR ?_;cases ht:textIn d d.here n with
   |some t=>
    rw[ht]at g2;cases ot with
    |none=>exact g2.elim
    |some tv=>
     refine ite_true ?_;walk_at"rd";exact km1 (.inr (.inl (by rw[ht];rfl))) _ s12
   |none=>
    rw[ht]at g2;cases ot with
    |some _=>exact g2.elim
    |none=>
     refine ite_false ?_;walk_at"rd";refine bB T hs2 ?_;walk_at"rd";refine⟨x.tr,_,rfl,.inl (SqL.of S2.tr),?_⟩;rw[List.length_map,List.length_cons,List.length_reverse];refine r_c (uO (bR ?_));refine cj (λhb=>?_) (λhb=>?_)
     ·rw[decide_eq_true_eq]at hb;walk_at"rd";exact km1 (.inr (.inr (by omega))) _ s12
     ·rw[decide_eq_false_iff_not]at hb;rw[if_neg (by rintro(z|z|z);rw[hn]at z;cases z;rw[ht]at z;cases z;omega)]at k
      walk_at"rd";refine eT hs2 ?_ rfl;walk_at"rd";refine⟨ka,_,rfl,.inr (SqT.of hka2),?_⟩;rw[List.length_map,Sp.aQ];walk_at"rd";have hc:=Sp.Bi d n;have hbb:=Sp.Bo d n;refine⟨x.s,dx,_,_,_,_,_,rfl,hs2,λh=>?_,λh=>?_⟩
      ·walk_at"rd";rw[if_pos (vR λz=>h ⟨by omega,by omega⟩)]at k
       exact k _ x ⟨rfl,Fr.of s12,λ_ h=>.inl h⟩ (S.same s12)
      ·have hf:count (Stencil.openItem d n)≤32∧bytesOf (Stencil.openItem d n)≤512:=⟨by omega,by omega⟩
       rw[if_neg (by rw[(Sp.oK _).mpr hf];simp)]at k
       rw[show((count d:Nat):Int)+1=((count (Stencil.openItem d n):Nat):Int)by omega,show((bytesOf d:Nat):Int)+(n.length:Int)=((bytesOf (Stencil.openItem d n):Nat):Int)by omega]
       refine bR ?_;refine v7 ?_;refine bw ?_;refine cb (aS (lg (nX (jy ?_))));intro a d3 ha hd nd
       change upd H2 x.s (.ins c.Store dx (nF x (Stencil.openItem d n))) a=none at ha
       change upd H2 x.s (.ins c.Store dx (nF x (Stencil.openItem d n))) d3=none at hd
       refine⟨a,d3,upd (upd H2 x.s (.ins c.Store dx (nF x (Stencil.openItem d n)))) d3 (.own a),rfl,rfl,by rw[ae nd.symm];exact ha,λH4 td ld s4 f1 f2 f3 f4 f5 e1 e2 e3=>⟨rfl,?_⟩⟩
       have s3:aE (upd H2 x.s (.ins c.Store dx (nF x (Stencil.openItem d n)))) H4:=(ao hd).trans s4;have kp4:∀b o,H2 b=some o→b≠x.s→H4 b=some o:=λb o e m=>s3 _ _ (by rw[ae m];exact e)
       have fre:∀{b:Addr},upd (upd H2 x.s (.ins c.Store dx (nF x (Stencil.openItem d n)))) d3 (.own a) b=none→H2 b=none:=λ{b}h=>by
        have h1:=(ao hd).free h;have:b≠x.s:=λz=>by rw[z,af]at h1;cases h1
        rw[ae this]at h1;exact h1
       have ftd:=fre f1;have fld:=fre f2;have fa:H2 a=none:=by
        have:a≠x.s:=λz=>by rw[z,af]at ha;cases ha
        rw[ae this]at ha;exact ha
       have out:∀{b:Addr},H2 b=none→b∉x.O:=λh m=>S2.own m h;have hs4:H4 x.s=some (.ins c.Store dx (nF x (Stencil.openItem d n))):=s3 _ _ af;have hqa4:H4 q.a=some (.ins c.Scope dq (ko (.ref q.td) (.ref q.ld))):=kp4 _ _ hqa2 (aF hqa2 hs2 (dW "trail" rfl rfl));have hka4:H4 ka=some (.tup ((kb n).map kV)):=by rw[zV];exact kp4 _ _ hka2 (aF hka2 hs2 (by intro z;cases z))
       obtain⟨kvs,l1,l2,l3⟩:=S2.lists d.here q hq;have hld4:=kp4 _ _ l1 (D.std q hqm).2.1.symm;have htr4:=kp4 _ _ S2.tr D.str.symm;have hit:d.items.length≤32:=by have:=S.fit.1;unfold count at this;omega
       have nda':((x.scs++[(⟨a,td,ld⟩:SCA)]).map (·.a)).Nodup:=by
        rw[List.map_append];refine rS S.nda λm=>?_;obtain⟨r,hr,e⟩:=List.mem_map.mp m;obtain⟨i,hi⟩:=List.getElem?_of_mem hr;obtain⟨dr,er⟩:=S2.scope i r hi;rw[e,fa]at er;cases er
       have D1:Dst ⟨x.s,x.tr,x.scs++[(⟨a,td,ld⟩:SCA)],x.li⟩:=D.more (out ftd) (out fld) f3;refine cb (aS (kK (DW ?_)));refine nY ?_;refine fw rfl ?_;refine dM T hqa4 ?_;refine⟨q.ld,rfl,.inr ⟨kvs,.inl hld4⟩,?_⟩;refine fw rfl ?_;refine zu (jy ?_);refine⟨Nat.zero_le _,λp hp=>?_⟩;have s5:=ao (o:=.lst []) hp;have fp:H2 p=none:=by
        cases e:H2 p with
        |none=>rfl
        |some o=>
         by_cases z:p=x.s
         ·rw[z,hs4]at hp;cases hp
         ·rw[kp4 _ _ e z]at hp;cases hp
       have kp5:∀b o,H2 b=some o→b≠x.s→upd H4 p (.lst []) b=some o:=λb o e m=>s5 _ _ (kp4 _ _ e m);have npx:∀{b:Addr}{o:HO},H4 b=some o→b≠p:=λe=>aw e hp;refine⟨kvs,kb n,ka,s5 _ _ hld4,rfl,s5 _ _ hka4,Nat.lt_of_le_of_lt l2 (Nat.lt_of_le_of_lt hit (by decide)),λv hv=>?_,λhv=>?_⟩
       ·
        rw[l3 n]at hv;obtain⟨la,hla,rfl⟩:=Option.map_eq_some_iff.mp hv;have hm:=lookup_mem hla;rcases S2.li d.here n with⟨z,_⟩|⟨la',z1,z2,z3⟩
        ·rw[hla]at z;cases z
        ·have:la'=la:=Option.some.inj (z1.symm.trans hla);subst this;have hla5:=kp5 _ _ z3 (D.sla _ hm).1.symm;refine tyL hla5 ?_;walk_at"rd";refine eO hla5 (by rw[List.length_map];exact Nat.lt_of_le_of_lt (show(itemsIn d d.here n).length≤d.items.length from by unfold itemsIn;rw[List.length_map];exact Nat.le_trans (List.length_filter_le _ _) (by rw[List.length_range];exact Nat.le_refl _)) (Nat.lt_of_le_of_lt hit (by decide))) ?_
         walk_at"rd";have htr5:upd (upd H4 p (.lst [])) la' (.lst ((itemsIn d d.here n).map x.at++[.ref a])) x.tr=some (.lst ((0::d.opened.reverse).map x.at)):=by
          rw[ae (D.sla _ hm).2];exact s5 _ _ htr4
         have hs5:upd (upd H4 p (.lst [])) la' (.lst ((itemsIn d d.here n).map x.at++[.ref a])) x.s=some (.ins c.Store dx (nF x (Stencil.openItem d n))):=by
          rw[ae (D.sla _ hm).1];exact s5 _ _ hs4
         refine bB T hs5 ?_;refine tyL htr5 ?_;walk_at"rd";refine eO htr5 (by rw[List.length_map,List.length_cons,List.length_reverse];exact Nat.lt_of_le_of_lt (show d.opened.length+1≤17 by have:=S.deep;omega) (by decide)) ?_
         walk_at"rd";have keep:∀b o,H2 b=some o→b≠x.s→b≠x.tr→b≠la'→upd (upd (upd H4 p (.lst [])) la' (.lst ((itemsIn d d.here n).map x.at++[.ref a]))) x.tr (.lst ((0::d.opened.reverse).map x.at++[.ref a])) b=some o:=λb o e m1 m2 m3=>by
          rw[ae m2,ae m3];exact kp5 _ _ e m1
         have keep4:∀b o,H4 b=some o→b≠x.tr→b≠la'→upd (upd (upd H4 p (.lst [])) la' (.lst ((itemsIn d d.here n).map x.at++[.ref a]))) x.tr (.lst ((0::d.opened.reverse).map x.at++[.ref a])) b=some o:=λb o e m2 m3=>by
          rw[ae m2,ae m3,ae (npx e)];exact e
         have mtr:x.tr∈x.O:=List.mem_cons_of_mem _ List.mem_cons_self;have mla:la'∈x.O:=List.mem_cons_of_mem _ (List.mem_cons_of_mem _ (List.mem_append_right _ (List.mem_append_right _ (List.mem_map.mpr ⟨_,hm,rfl⟩))));have nof:∀{b:Addr},H2 b=none→b≠x.tr∧b≠la':=λh=>⟨λz=>out h (by rw[z];exact mtr),λz=>out h (by rw[z];exact mla)⟩
         refine k _ ⟨x.s,x.tr,x.scs++[(⟨a,td,ld⟩:SCA)],x.li⟩ ⟨rfl,λb o e hb=>?_,λb hb=>?_⟩ (S2.opens (dx':=d3) (lp:=la') (kvs':=kvs) hs2 hq ht (by omega) hf (λi m=>?_) D1 nda' (λr hr=>?_) (λb o e m1 m2 _ m4=>keep b o e m1 m2 m4) (λo e=>?_) ?_ af ?_ (by omega) (λm=>?_) ?_ ?_ ?_ ?_)
         ·exact keep b o (s12 _ _ e) (λz=>hb (by rw[z];exact List.mem_cons_self)) (λz=>hb (by rw[z];exact mtr)) (λz=>hb (by rw[z];exact mla))
         ·unfold SX.O at hb⊢;simp only[List.map_append,List.map_cons,List.map_nil,List.mem_cons,List.mem_append,List.not_mem_nil,or_false]at hb⊢;have g1:=s12.free ftd;have g2:=s12.free fld;rcases hb with z|z|(z|z)|(z|z)|z
          ·exact .inl (.inl z)
          ·exact .inl (.inr (.inl z))
          ·exact .inl (.inr (.inr (.inl z)))
          ·exact .inr (by rw[z];exact g1)
          ·exact .inl (.inr (.inr (.inr (.inl z))))
          ·exact .inr (by rw[z];exact g2)
          ·exact .inl (.inr (.inr (.inr (.inr z))))
         ·by_cases h:i=d.here∧m=n
          ·rw[if_pos h,h.1,h.2];exact hla
          ·rw[if_neg h]
         ·obtain⟨y,ys,e⟩:=S2.kinds r hr
          by_cases z:r.2=la'
          ·rw[z,ae (D.sla _ hm).2.symm,af];cases hI:itemsIn d d.here n with
           |nil=>exact⟨_,_,rfl⟩
           |cons j js=>exact⟨_,_,rfl⟩
          ·exact⟨y,ys,keep _ _ e (D.sla r hr).1.symm (D.sla r hr).2.symm z⟩
         ·obtain⟨y,ys,e'⟩:=S2.kinds _ hm;exact⟨y,ys,Option.some.inj (e.symm.trans e')⟩
         ·rw[ae D.str];exact hs5
         ·rw[ae (D.std q hqm).2.2.2.symm,ae (D.tla q hqm _ hm).2];exact s5 _ _ hld4
         ·rw[l3 m]
         ·rw[ae (D.sla _ hm).2.symm,af]
         ·exact keep4 _ _ e1 (nof fa).1 (nof fa).2
         ·exact keep4 _ _ e2 (nof ftd).1 (nof ftd).2
         ·exact keep4 _ _ e3 (nof fld).1 (nof fld).2
       ·
        rw[l3 n]at hv;have hlk:x.li.lookup (d.here,n)=none:=Option.map_eq_none_iff.mp hv;have hI:itemsIn d d.here n=[]:=by
         rcases S2.li d.here n with⟨_,z⟩|⟨la',z1,_,_⟩
         ·exact z
         ·rw[hlk]at z1;cases z1
        have npq:p≠q.ld:=(npx hld4).symm;have hp5:upd (upd H4 p (.lst [])) q.ld (.dT (putK kvs (kb n) (.ref p))) p=some (.lst []):=by rw[ae npq,af]
        refine tyL hp5 ?_;walk_at"rd";refine eO hp5 (by decide) ?_
        walk_at"rd";have hs5:upd (upd (upd H4 p (.lst [])) q.ld (.dT (putK kvs (kb n) (.ref p)))) p (.lst ([]++[.ref a])) x.s=some (.ins c.Store dx (nF x (Stencil.openItem d n))):=by
         rw[ae (npx hs4),ae (D.std q hqm).2.1];exact s5 _ _ hs4
        have htr5:upd (upd (upd H4 p (.lst [])) q.ld (.dT (putK kvs (kb n) (.ref p)))) p (.lst ([]++[.ref a])) x.tr=some (.lst ((0::d.opened.reverse).map x.at)):=by
         rw[ae (npx htr4),ae (D.std q hqm).2.2.2];exact s5 _ _ htr4
        refine bB T hs5 ?_;refine tyL htr5 ?_;walk_at"rd";refine eO htr5 (by rw[List.length_map,List.length_cons,List.length_reverse];exact Nat.lt_of_le_of_lt (show d.opened.length+1≤17 by have:=S.deep;omega) (by decide)) ?_
        walk_at"rd";have keep4:∀b o,H4 b=some o→b≠x.tr→b≠q.ld→upd (upd (upd (upd H4 p (.lst [])) q.ld (.dT (putK kvs (kb n) (.ref p)))) p (.lst ([]++[.ref a]))) x.tr (.lst ((0::d.opened.reverse).map x.at++[.ref a])) b=some o:=λb o e m2 m3=>by
         rw[ae m2,ae (npx e),ae m3,ae (npx e)];exact e
        have keep:∀b o,H2 b=some o→b≠x.s→b≠x.tr→b≠q.ld→upd (upd (upd (upd H4 p (.lst [])) q.ld (.dT (putK kvs (kb n) (.ref p)))) p (.lst ([]++[.ref a]))) x.tr (.lst ((0::d.opened.reverse).map x.at++[.ref a])) b=some o:=λb o e m1 m2 m3=>keep4 b o (kp4 _ _ e m1) m2 m3;have mtr:x.tr∈x.O:=List.mem_cons_of_mem _ List.mem_cons_self;have mld:q.ld∈x.O:=List.mem_cons_of_mem _ (List.mem_cons_of_mem _ (List.mem_append_right _ (List.mem_append_left _ (List.mem_map.mpr ⟨_,hqm,rfl⟩))));have nof:∀{b:Addr},H2 b=none→b≠x.tr∧b≠q.ld:=λh=>⟨λz=>out h (by rw[z];exact mtr),λz=>out h (by rw[z];exact mld)⟩
        have npt:p≠x.tr:=(npx htr4).symm;have D2:Dst ⟨x.s,x.tr,x.scs++[(⟨a,td,ld⟩:SCA)],x.li++[((d.here,n),p)]⟩:=D1.Kd (λm=>by
         unfold SX.O at m;simp only[List.map_append,List.map_cons,List.map_nil,List.mem_cons,List.mem_append,List.not_mem_nil,or_false]at m;have o:=out fp;unfold SX.O at o;simp only[List.mem_cons,List.mem_append,not_or]at o;rcases m with z|z|(z|z)|(z|z)|z
         ·exact o.1 z
         ·exact o.2.1 z
         ·exact o.2.2.1 z
         ·exact(npx e2) z.symm
         ·exact o.2.2.2.1 z
         ·exact(npx e3) z.symm
         ·exact o.2.2.2.2 z)
        refine k _ ⟨x.s,x.tr,x.scs++[(⟨a,td,ld⟩:SCA)],x.li++[((d.here,n),p)]⟩ ⟨rfl,λb o e hb=>?_,λb hb=>?_⟩ (S2.opens (dx':=d3) (lp:=p) (kvs':=putK kvs (kb n) (.ref p)) hs2 hq ht (by omega) hf (λi m=>?_) D2 nda' (λr hr=>?_) (λb o e m1 m2 m3 _=>keep b o e m1 m2 m3) (λo e=>?_) ?_ af ?_ ?_ (λm=>?_) ?_ ?_ ?_ ?_)
        ·exact keep b o (s12 _ _ e) (λz=>hb (by rw[z];exact List.mem_cons_self)) (λz=>hb (by rw[z];exact mtr)) (λz=>hb (by rw[z];exact mld))
        ·unfold SX.O at hb⊢;simp only[List.map_append,List.map_cons,List.map_nil,List.mem_cons,List.mem_append,List.not_mem_nil,or_false]at hb⊢;have g1:=s12.free ftd;have g2:=s12.free fld;have g3:=s12.free fp;rcases hb with z|z|(z|z)|(z|z)|(z|z)
         ·exact .inl (.inl z)
         ·exact .inl (.inr (.inl z))
         ·exact .inl (.inr (.inr (.inl z)))
         ·exact .inr (by rw[z];exact g1)
         ·exact .inl (.inr (.inr (.inr (.inl z))))
         ·exact .inr (by rw[z];exact g2)
         ·exact .inl (.inr (.inr (.inr (.inr z))))
         ·exact .inr (by rw[z];exact g3)
        ·rw[uu _ _ _ _ hlk]
         by_cases h:i=d.here∧m=n
         ·rw[if_pos h,if_pos (by rw[h.1,h.2])]
         ·rw[if_neg h,if_neg (λz=>h ⟨congrArg Prod.fst z,congrArg Prod.snd z⟩)]
        ·rcases List.mem_append.mp hr with m|m
         ·obtain⟨y,ys,e⟩:=S2.kinds r m;exact⟨y,ys,keep _ _ e (D.sla r m).1.symm (D.sla r m).2.symm (D.tla q hqm r m).2.symm⟩
         ·rw[List.mem_singleton.mp m];exact⟨a,[],by show upd _ _ _ p=_;rw[ae npt,af];rfl⟩
        ·rw[fp]at e;cases e
        ·rw[ae D.str];exact hs5
        ·rw[ae (D.std q hqm).2.2.2.symm,ae npq.symm,af]
        ·have:=iK kvs (kb n) (.ref p);omega
        ·rw[za,uu _ _ _ _ hlk]
         by_cases h:m=n
         ·subst h;rw[if_pos rfl,if_pos rfl];rfl
         ·rw[if_neg (λz=>h (EA z)),if_neg (λz=>h (congrArg Prod.snd z)),l3 m]
        ·rw[ae npt,af,hI];rfl
        ·exact keep4 _ _ e1 (nof fa).1 (nof fa).2
        ·exact keep4 _ _ e2 (nof ftd).1 (nof ftd).2
        ·exact keep4 _ _ e3 (nof fld).1 (nof fld).2
def Fm(c:Cs):Sp:=λvs H Q _=>∃(s dx:Addr)(H0:Hp),vs=[.ref s]∧H=upd H0 s (.ins c.Store dx [])∧H0 s=none∧∀H' x,aE H0 H'→x.s=s→(∀b∈x.O,H0 b=none)→aH c H' x Stencil.empty→Q .non H'
theorem qa(T:Txt K mg c):sM P w K mg base c.Store "Store" ["self"] 3 (Fm c):=by
 refine T.ie.has (k:=2) wL (λvs H Q E h=>?_) (λfa cdv A outer sh0 H vs Q E hr h=>?_)
 ·obtain⟨s,dx,H0,rfl,_⟩:=h;rfl
 ·obtain⟨s0,dx,H0,rfl,rfl,hs,k⟩:=h;refine⟨_,(ag (aT (pv 0) (aU (aa (D8 (qc T) hr nox) ai)) rfl) (ag (aT (pv 0) aA rfl) (ah (aT (pv 0) aA rfl)))),?_⟩
  try dsimp only[aM]
  refine aS (qK (zu (l9 (nX (jy ?_)))));intro a d3 ha hd nd;refine⟨a,d3,upd (upd H0 s0 (.ins c.Store dx [])) d3 (.own a),rfl,rfl,by rw[ae nd.symm];exact ha,λH4 td ld s4 f1 f2 f3 f4 f5 e1 e2 e3=>⟨rfl,?_⟩⟩
  have s3:aE (upd H0 s0 (.ins c.Store dx [])) H4:=(ao hd).trans s4;have fre:∀{b:Addr},upd H0 s0 (.ins c.Store dx []) b=none→b≠s0∧H0 b=none:=λ{b}h=>by
   have:b≠s0:=λz=>by rw[z,af]at h;cases h
   rw[ae this]at h;exact⟨this,h⟩
  obtain⟨na,fa⟩:=fre ha;obtain⟨ntd,ftd⟩:=fre ((ao hd).free f1);obtain⟨nld,fld⟩:=fre ((ao hd).free f2);have hs4:H4 s0=some (.ins c.Store dx []):=s3 _ _ af;refine jy ?_;refine⟨by show 1≤sizeLine;decide,λtr htr=>?_⟩
  obtain⟨ntr,ftr⟩:=fre (s3.free htr);have s5:=ao (o:=.lst [.ref a]) htr;walk_at"rd";refine⟨s0,_,dx,_,rfl,s5 _ _ hs4,T.ie.cl,T.qi,by show 0<1000;decide,?_⟩
  walk_at"rd";refine⟨s0,_,dx,_,rfl,af,T.ie.cl,T.eC,by show 1<1000;decide,?_⟩
  walk_at"rd";refine⟨s0,_,dx,_,rfl,af,T.ie.cl,T.fc,by show 2<1000;decide,?_⟩
  rw[fN,fN];have nt1:td≠tr:=aw e2 htr;have nt2:ld≠tr:=aw e3 htr;have kp:∀b o,H4 b=some o→b≠s0→upd (upd H4 tr (.lst [.ref a])) s0 (.ins c.Store dx (e9 "byte_count" (.int 0) (e9 "entry_count" (.int 0) (e9 "trail" (.ref tr) [])))) b=some o:=λb o e m=>by rw[ae m];exact s5 _ _ e
  refine k _ ⟨s0,tr,[⟨a,td,ld⟩],[]⟩ (λb o e=>?_) rfl (λb hb=>?_) ⟨⟨dx,af⟩,?_,rfl,λi q e=>?_,λi q e=>?_,λi q e=>?_,λi n=>.inl ⟨rfl,rfl⟩,(λ_ h=>nomatch h),Nat.zero_le _,Dst.nd ⟨ntr.symm,λq hq=>?_,(λ_ h=>nomatch h),λq hq q2 hq2=>?_,(λ_ _ _ h=>nomatch h),by simp,by simp,by simp⟩,by simp,Sp.TOk.empty,⟨Nat.zero_le _,Nat.zero_le _⟩,λi n _=>rfl,(λ_ h=>nomatch h),λj e h=>?_,(λ_ h=>nomatch h)⟩
  ·have m1:=aw e hs;exact kp _ _ (s3 _ _ (by rw[ae m1];exact e)) m1
  ·unfold SX.O at hb;simp only[List.map_cons,List.map_nil,List.mem_cons,List.mem_append,List.not_mem_nil,or_false]at hb;rcases hb with rfl|rfl|rfl|rfl
   ·exact hs
   ·exact ftr
   ·exact ftd
   ·exact fld
  ·show upd _ _ _ tr=_;rw[ae ntr,af];rfl
  ·cases i with
   |zero=>cases e;exact⟨d3,kp _ _ e1 na⟩
   |succ i=>simp at e
  ·cases i with
   |zero=>cases e;exact⟨[],kp _ _ e2 ntd,Nat.zero_le _,λn=>True.intro⟩
   |succ i=>simp at e
  ·cases i with
   |zero=>cases e;exact⟨[],kp _ _ e3 nld,Nat.zero_le _,λn=>rfl⟩
   |succ i=>simp at e
  ·rw[List.mem_singleton.mp hq];exact⟨ntd.symm,nld.symm,nt1.symm,nt2.symm⟩
  ·rw[List.mem_singleton.mp hq,List.mem_singleton.mp hq2];exact f3
  ·simp[Stencil.empty]at h
end
section
open Stencil (textIn itemsIn near known valueOf holdsIn Bytes)
open Sp (i8)
def toB(l:List Int):Bytes:=l.map λ(z:Int)=>UInt8.ofNat z.toNat
structure WS where
 place:Nat
 sc:List Nat
 cm:List (List Nat)
 rows:List (List Int)
structure WA where
 (w pl sl cl rl:Addr)
def WA.own(y:WA)(cas:List Addr):List Addr:=y.sl::y.cl::y.rl::cas
structure WalkAt(c:Cs)(H0 H:Hp)(y:WA)(x:SX)(d:SD)(as:List PA)(ps:List Pce)(cas ras:List Addr)(st:WS):Prop where
 base:aE H0 H
 store:aH c H0 x d
 pcs:di c H0 y.pl as ps
 self:∃dx,H y.w=some (.ins c.Walk dx (cF (.ref y.pl) (.int st.place) (.ref y.sl) (.ref y.cl) (.ref y.rl)))
 sc:H y.sl=some (.lst (st.sc.reverse.map x.at))
 cm:H y.cl=some (.lst (cas.reverse.map V.ref))
 cms:F2 (λca ids=>H ca=some (.lst (ids.map x.at))) cas st.cm
 rl:H y.rl=some (.lst (ras.map V.ref))
 rls:F2 (λra row=>H ra=some (.lst (row.map V.int))) ras st.rows
 nd:(y.own cas).Nodup
 new:∀b∈y.own cas,H0 b=none
 AS:H0 y.w=none
 nro:∀ra∈ras,ra∉y.own cas
 scv:∀j∈st.sc,j≤d.items.length
 cmv:∀ids∈st.cm,∀j∈ids,j≤d.items.length
section
variable {H0 H H':Hp}{y:WA}{x:SX}{d:SD}{as:List PA}{ps:List Pce}{cas ras:List Addr}{st:WS}
theorem WalkAt.same(S:WalkAt c H0 H y x d as ps cas ras st)(s:aE H H'):WalkAt c H0 H' y x d as ps cas ras st:=by
 obtain⟨b,h1,h2,⟨dx,h3⟩,h4,h5,h6,h7,h8,h9,h10,h11,h12,h13,h14⟩:=S;exact⟨b.trans s,h1,h2,⟨dx,s _ _ h3⟩,s _ _ h4,s _ _ h5,h6.imp λ_ _ e=>s _ _ e,s _ _ h7,h8.imp λ_ _ e=>s _ _ e,h9,h10,h11,h12,h13,h14⟩
theorem WalkAt.go{dx:Addr}(S:WalkAt c H0 H y x d as ps cas ras st)(k:Nat):WalkAt c H0 (upd H y.w (.ins c.Walk dx (cF (.ref y.pl) (.int k) (.ref y.sl) (.ref y.cl) (.ref y.rl)))) y x d as ps cas ras {st with place:=k}:=by
 obtain⟨dx0,hw⟩:=S.self;have kp:∀{b:Addr}{xs:List V},H b=some (.lst xs)→upd H y.w (.ins c.Walk dx (cF (.ref y.pl) (.int k) (.ref y.sl) (.ref y.cl) (.ref y.rl))) b=some (.lst xs):=λe=>by rw[ae (aF e hw (by intro z;cases z))];exact e
 exact⟨aE.upd S.base S.AS,S.store,S.pcs,⟨dx,af⟩,kp S.sc,kp S.cm,S.cms.imp λ_ _ e=>kp e,kp S.rl,S.rls.imp λ_ _ e=>kp e,S.nd,S.new,S.AS,S.nro,S.scv,S.cmv⟩
theorem WA.nds{y:WA}{cas:List Addr}(h:(y.own cas).Nodup):y.sl≠y.cl∧y.sl≠y.rl∧y.cl≠y.rl∧y.sl∉cas∧y.cl∉cas∧y.rl∉cas∧cas.Nodup:=by
 unfold WA.own at h;rw[List.nodup_cons,List.nodup_cons,List.nodup_cons]at h;obtain⟨h1,h2,h3,h4⟩:=h;simp only[List.mem_cons,not_or]at h1 h2;exact⟨h1.1,h1.2.1,h2.1,h1.2.2,h2.2,h3,h4⟩
theorem WalkAt.kp(S:WalkAt c H0 H y x d as ps cas ras st){o:Addr}(ho:o∈y.own cas)(u:HO):aE H0 (upd H o u)∧(∀dx fs,H y.w=some (.ins c.Walk dx fs)→upd H o u y.w=some (.ins c.Walk dx fs))∧F2 (λra row=>upd H o u ra=some (.lst (row.map V.int))) ras st.rows:=by
 have hl:∃xs,H o=some (.lst xs):=by
  unfold WA.own at ho;rcases List.mem_cons.mp ho with z|ho
  ·exact⟨_,z▸S.sc⟩
  ·rcases List.mem_cons.mp ho with z|ho
   ·exact⟨_,z▸S.cm⟩
   ·rcases List.mem_cons.mp ho with z|ho
    ·exact⟨_,z▸S.rl⟩
    ·obtain⟨i,hi⟩:=List.getElem?_of_mem ho;obtain⟨ids,_,e⟩:=S.cms.get hi;exact⟨_,e⟩
 obtain⟨xs,hx⟩:=hl;refine⟨aE.upd S.base (S.new o ho),λdx fs e=>by rw[ae (aF e hx (by intro z;cases z))];exact e,?_⟩
 exact(S.rls.kU (P:=λra=>ra≠o) λra hra z=>S.nro ra hra (z▸ho)).imp λra row⟨e,n⟩=>by rw[ae n];exact e
theorem WalkAt.DK(S:WalkAt c H0 H y x d as ps cas ras st)(l:List Nat)(hl:∀j∈l,j≤d.items.length):WalkAt c H0 (upd H y.sl (.lst (l.reverse.map x.at))) y x d as ps cas ras {st with sc:=l}:=by
 obtain⟨k1,k2,k3⟩:=S.kp (o:=y.sl) List.mem_cons_self (.lst (l.reverse.map x.at));obtain⟨n1,n2,n3,n4,n5,n6,n7⟩:=WA.nds S.nd;obtain⟨dx,hw⟩:=S.self;exact⟨k1,S.store,S.pcs,⟨dx,k2 _ _ hw⟩,af,by rw[ae n1.symm];exact S.cm,(S.cms.kU (P:=λca=>ca≠y.sl) λca h z=>n4 (z▸h)).imp λ_ _⟨e,n⟩=>by rw[ae n];exact e,by rw[ae n2.symm];exact S.rl,k3,S.nd,S.new,S.AS,S.nro,hl,S.cmv⟩
theorem WalkAt.E4{ra:Addr}{row:List Int}(S:WalkAt c H0 H y x d as ps cas ras st)(hr:H ra=some (.lst (row.map V.int)))(hn:ra∉y.own cas):WalkAt c H0 (upd H y.rl (.lst (ras.map V.ref++[.ref ra]))) y x d as ps cas (ras++[ra]) {st with rows:=st.rows++[row]}:=by
 have hm:y.rl∈y.own cas:=List.mem_cons_of_mem _ (List.mem_cons_of_mem _ List.mem_cons_self);obtain⟨k1,k2,k3⟩:=S.kp hm (.lst (ras.map V.ref++[.ref ra]));obtain⟨n1,n2,n3,n4,n5,n6,n7⟩:=WA.nds S.nd;obtain⟨dx,hw⟩:=S.self;have hr1:upd H y.rl (.lst (ras.map V.ref++[.ref ra])) ra=some (.lst (row.map V.int)):=by
  have n0:ra≠y.rl:=λz=>hn (mq hm z.symm);rw[ae n0];exact hr
 refine⟨k1,S.store,S.pcs,⟨dx,k2 _ _ hw⟩,by rw[ae n2];exact S.sc,by rw[ae n3];exact S.cm,(S.cms.kU (P:=λca=>ca≠y.rl) λca h z=>n6 (z▸h)).imp λ_ _⟨e,n⟩=>by rw[ae n];exact e,by rw[af,List.map_append];rfl,
  k3.app (.cons hr1 .nil),S.nd,S.new,S.AS,λr h=>?_,S.scv,S.cmv⟩
 rcases List.mem_append.mp h with m|m
 ·exact S.nro r m
 ·rw[List.mem_singleton.mp m];exact hn
theorem WalkAt.push{ca:Addr}{ids:List Nat}(S:WalkAt c H0 H y x d as ps cas ras st)(hc:H ca=some (.lst (ids.map x.at)))(hn:ca∉y.own cas)(h0:H0 ca=none)(hr:ca∉ras)(hv:∀j∈ids,j≤d.items.length):
  WalkAt c H0 (upd H y.cl (.lst (cas.reverse.map V.ref++[.ref ca]))) y x d as ps (ca::cas) ras {st with cm:=ids::st.cm}:=by
 have hm:y.cl∈y.own cas:=List.mem_cons_of_mem _ List.mem_cons_self;obtain⟨k1,k2,k3⟩:=S.kp hm (.lst (cas.reverse.map V.ref++[.ref ca]));obtain⟨n1,n2,n3,n4,n5,n6,n7⟩:=WA.nds S.nd;obtain⟨dx,hw⟩:=S.self;have hn':=hn;unfold WA.own at hn';simp only[List.mem_cons,not_or]at hn';refine⟨k1,S.store,S.pcs,⟨dx,k2 _ _ hw⟩,by rw[ae n1];exact S.sc,by rw[af,List.reverse_cons,List.map_append];rfl,.cons (by rw[ae hn'.2.1];exact hc) ((S.cms.kU (P:=λc'=>c'≠y.cl) λc' h z=>n5 (z▸h)).imp λ_ _⟨e,n⟩=>by rw[ae n];exact e),
  by rw[ae n3.symm];exact S.rl,k3,?_,λb hb=>?_,S.AS,λr h m=>?_,S.scv,λi hi=>?_⟩
 ·unfold WA.own;rw[List.nodup_cons,List.nodup_cons,List.nodup_cons,List.nodup_cons];simp only[List.mem_cons,not_or];exact⟨⟨n1,n2,Ne.symm hn'.1,n4⟩,⟨n3,Ne.symm hn'.2.1,n5⟩,⟨Ne.symm hn'.2.2.1,n6⟩,hn'.2.2.2,n7⟩
 ·unfold WA.own at hb;simp only[List.mem_cons]at hb;rcases hb with z|z|z|z|z
  ·exact S.new b (by rw[z];exact List.mem_cons_self)
  ·exact S.new b (by rw[z];exact hm)
  ·exact S.new b (by rw[z];exact List.mem_cons_of_mem _ (List.mem_cons_of_mem _ List.mem_cons_self))
  ·rw[z];exact h0
  ·exact S.new b (List.mem_cons_of_mem _ (List.mem_cons_of_mem _ (List.mem_cons_of_mem _ z)))
 ·unfold WA.own at m;simp only[List.mem_cons]at m;have g:=S.nro r h;unfold WA.own at g;simp only[List.mem_cons,not_or]at g;rcases m with z|z|z|z|z
  ·exact g.1 z
  ·exact g.2.1 z
  ·exact g.2.2.1 z
  ·exact hr (z▸h)
  ·exact g.2.2.2 z
 ·rcases List.mem_cons.mp hi with z|m
  ·rw[z];exact hv
  ·exact S.cmv i m
theorem WalkAt.pop{ca:Addr}{ids:List Nat}{cm:List (List Nat)}(S:WalkAt c H0 H y x d as ps (ca::cas) ras st)(e0:st.cm=ids::cm):WalkAt c H0 (upd H y.cl (.lst (cas.reverse.map V.ref))) y x d as ps cas ras {st with cm:=cm}:=by
 have hm:y.cl∈y.own (ca::cas):=List.mem_cons_of_mem _ List.mem_cons_self;obtain⟨k1,k2,k3⟩:=S.kp hm (.lst (cas.reverse.map V.ref));obtain⟨n1,n2,n3,n4,n5,n6,n7⟩:=WA.nds S.nd;obtain⟨dx,hw⟩:=S.self;have hc:=S.cms;rw[e0]at hc;cases hc with
 |cons e1 e2=>
  have sub:∀b,b∈y.own cas→b∈y.own (ca::cas):=λb hb=>by
   unfold WA.own at hb⊢;simp only[List.mem_cons]at hb⊢;rcases hb with z|z|z|z
   ·exact .inl z
   ·exact .inr (.inl z)
   ·exact .inr (.inr (.inl z))
   ·exact .inr (.inr (.inr (.inr z)))
  refine⟨k1,S.store,S.pcs,⟨dx,k2 _ _ hw⟩,by rw[ae n1];exact S.sc,af,(e2.kU (P:=λc'=>c'≠y.cl) λc' h z=>n5 (List.mem_cons_of_mem _ (z▸h))).imp λ_ _⟨e,n⟩=>by rw[ae n];exact e,by rw[ae n3.symm];exact S.rl,k3,?_,λb hb=>S.new b (sub b hb),S.AS,λr h m=>S.nro r h (sub r m),S.scv,λi hi=>S.cmv i (by rw[e0];exact List.mem_cons_of_mem _ hi)⟩
  unfold WA.own;rw[List.nodup_cons,List.nodup_cons,List.nodup_cons];simp only[List.mem_cons,not_or]at n4 n5 n6⊢;rw[List.nodup_cons]at n7;exact⟨⟨n1,n2,n4.2⟩,⟨n3,n5.2⟩,n6.2,n7.2⟩
theorem WalkAt.take{ca:Addr}{ids ids':List Nat}{cm:List (List Nat)}(S:WalkAt c H0 H y x d as ps (ca::cas) ras st)(e0:st.cm=ids::cm)(hv:∀j∈ids',j≤d.items.length):WalkAt c H0 (upd H ca (.lst (ids'.map x.at))) y x d as ps (ca::cas) ras {st with cm:=ids'::cm}:=by
 have hm:ca∈y.own (ca::cas):=List.mem_cons_of_mem _ (List.mem_cons_of_mem _ (List.mem_cons_of_mem _ List.mem_cons_self));obtain⟨k1,k2,k3⟩:=S.kp hm (.lst (ids'.map x.at));obtain⟨n1,n2,n3,n4,n5,n6,n7⟩:=WA.nds S.nd;obtain⟨dx,hw⟩:=S.self;have hc:=S.cms;rw[e0]at hc;simp only[List.mem_cons,not_or]at n4 n5 n6;rw[List.nodup_cons]at n7;cases hc with
 |cons e1 e2=>
  refine⟨k1,S.store,S.pcs,⟨dx,k2 _ _ hw⟩,by rw[ae n4.1];exact S.sc,by rw[ae n5.1];exact S.cm,.cons af ((e2.kU (P:=λc'=>c'≠ca) λc' h z=>n7.1 (z▸h)).imp λ_ _⟨e,n⟩=>by rw[ae n];exact e),by rw[ae n6.1];exact S.rl,k3,S.nd,S.new,S.AS,S.nro,S.scv,λi hi=>?_⟩
  rcases List.mem_cons.mp hi with z|m
  ·rw[z];exact hv
  ·exact S.cmv i (by rw[e0];exact List.mem_cons_of_mem _ m)
end
def lO(d:SD)(p:Pce)(st:WS):Option WS:=match p.cy,st.sc with
 |some n,s::sc=>match itemsIn d s (toB p.row)with
  |[]=>some {st with place:=n+1}
  |j::js=>if st.cm.length<1000∧st.sc.length<1000 then some {st with sc:=j::s::sc,cm:=js::st.cm}else none
 |_,_=>none
def x8(ps:List Pce)(p:Pce)(st:WS):Option WS:=match p.cy with
 |none=>none
 |some n=>match ps[n]? with
  |none=>none
  |some b=>if b.aZ≠3 then some st else match st.sc,st.cm with
   |_::sc,[]::cm=>some {st with sc:=sc,cm:=cm}
   |_::sc,(j::js)::cm=>if sc.length<1000 then some {st with sc:=j::sc,cm:=js::cm,place:=n+1}else none
   |_,_=>none
def pN(d:SD)(ps:List Pce)(st:WS):Option WS:=match ps[st.place]? with
 |none=>none
 |some p=>if p.aZ=1 then some {st with place:=st.place+1,rows:=st.rows++[p.row]}
  else if p.aZ=2 then(match p.kind with
   |some kd=>if kd=1∨kd=2∨kd=3 then some {st with place:=st.place+1,rows:=st.rows++[wr kd (i8 (valueOf d st.sc (toB p.row)))]}else none
   |none=>none)
  else if p.aZ=3 then lO d p {st with place:=st.place+1}
  else if p.aZ=6 then x8 ps p {st with place:=st.place+1}
  else if holdsIn d st.sc (toB p.row)=decide (p.aZ=5)then(p.cy.map λn=>{st with place:=n+1})
  else some {st with place:=st.place+1}
def uI(d:SD)(ps:List Pce):Nat→WS→Option (List (List Int))
 |0,_=>none
 |f+1,st=>if st.place<ps.length then(pN d ps st).bind (uI d ps f)else some st.rows
theorem As{d:SD}{ps:List Pce}{st s1:WS}(h:pN d ps st=some s1):st.rows.length≤s1.rows.length:=by
 unfold pN at h
 split at h
 ·cases h
 ·rename_i p hp
  split at h
  ·injection h with h;subst h;rw[List.length_append];exact Nat.le_succ _
  ·split at h
   ·split at h
    ·split at h
     ·injection h with h;subst h;rw[List.length_append];exact Nat.le_succ _
     ·cases h
    ·cases h
   ·split at h
    ·unfold lO at h
     split at h
     ·split at h
      ·injection h with h;subst h;exact Nat.le_refl _
      ·split at h
       ·injection h with h;subst h;exact Nat.le_refl _
       ·cases h
     ·cases h
    ·split at h
     ·unfold x8 at h
      split at h
      ·cases h
      ·split at h
       ·cases h
       ·split at h
        ·injection h with h;subst h;exact Nat.le_refl _
        ·split at h
         ·injection h with h;subst h;exact Nat.le_refl _
         ·split at h
          ·injection h with h;subst h;exact Nat.le_refl _
          ·cases h
         ·cases h
     ·split at h
      ·obtain⟨n,_,rfl⟩:=Option.map_eq_some_iff.mp h;exact Nat.le_refl _
      ·injection h with h;subst h;exact Nat.le_refl _
theorem xa{d:SD}{ps:List Pce}:∀{f:Nat}{st:WS}{R:List (List Int)},uI d ps f st=some R→st.rows.length≤R.length
 |0,_,_,h=>by cases h
 |f+1,st,R,h=>by
  unfold uI at h
  split at h
  ·obtain⟨s1,h1,h2⟩:=Option.bind_eq_some_iff.mp h;exact Nat.le_trans (As h1) (xa h2)
  ·injection h with h;subst h;exact Nat.le_refl _
end
section
open Stencil (textIn itemsIn near known valueOf holdsIn Bytes)
open Sp (i8)
theorem EW(xs:List V)(b:Nat):wx xs (some (b:Int)) none=xs.drop b:=by
 unfold wx;rw[HT.yj,HT.DM];rcases Nat.le_total b xs.length with h|h
 ·rw[Nat.min_eq_left h,List.take_of_length_le (by rw[List.length_drop];exact Nat.le_refl _)]
 ·rw[Nat.min_eq_right h,List.drop_length,List.drop_eq_nil_of_le h,List.take_nil]
section
variable {H0 H H':Hp}{y:WA}{x:SX}{d:SD}{as:List PA}{ps:List Pce}{cas ras:List Addr}{st:WS}
theorem WalkAt.uf(S:WalkAt c H0 H y x d as ps cas ras st){i:Nat}{p:Pce}(h:ps[i]?=some p):∃q dx,as[i]?=some q∧H q.a=some (.ins c.Piece dx (c4 (.int p.aZ) (kdV p.kind) (.ref q.ra) (.ref q.ka) (ptV p.cy)))∧H q.ra=some (.lst (p.row.map V.int))∧H q.ka=some (.tup (p.row.map V.int)):=by
 obtain⟨q,hq,⟨dx,e1⟩,e2,e3⟩:=S.pcs.each.get' h;exact⟨q,dx,hq,S.base _ _ e1,S.base _ _ e2,S.base _ _ e3⟩
theorem WalkAt.free(S:WalkAt c H0 H y x d as ps cas ras st){b:Addr}(h:H b=none):b∉y.own cas∧H0 b=none∧b∉ras:=by
 refine⟨λm=>?_,S.base.free h,λm=>?_⟩
 ·unfold WA.own at m;simp only[List.mem_cons]at m;rcases m with z|z|z|z
  ·rw[z,S.sc]at h;cases h
  ·rw[z,S.cm]at h;cases h
  ·rw[z,S.rl]at h;cases h
  ·obtain⟨i,hi⟩:=List.getElem?_of_mem z;obtain⟨ids,_,e⟩:=S.cms.get hi;rw[h]at e;cases e
 ·obtain⟨i,hi⟩:=List.getElem?_of_mem m;obtain⟨ids,_,e⟩:=S.rls.get hi;rw[h]at e;cases e
theorem B5{s:Nat}{sc:List Nat}:(((s::sc).reverse).map x.at)[(((s::sc).reverse).map x.at).length-1]?=some (x.at s):=by
 rw[←List.getLast?_eq_getElem?,List.getLast?_map,List.getLast?_reverse];rfl
theorem Ip{s:Nat}{sc:List Nat}:0<(((s::sc).reverse).map x.at).length:=by
 rw[List.length_map,List.length_reverse];exact Nat.succ_pos _
theorem yG{a:Addr}{l:List Addr}:(((a::l).reverse).map V.ref)[(((a::l).reverse).map V.ref).length-1]?=some (V.ref a):=by
 rw[←List.getLast?_eq_getElem?,List.getLast?_map,List.getLast?_reverse];rfl
theorem D7{a:Addr}{l:List Addr}:0<(((a::l).reverse).map V.ref).length:=by
 rw[List.length_map,List.length_reverse];exact Nat.succ_pos _
end
def JB(c:Cs)(f:SD→List Pce→Pce→WS→Option WS):Sp:=λvs H Q _=>∃(y:WA)(x:SX)(d:SD)(as:List PA)(ps:List Pce)(cas ras:List Addr)(st s1:WS)(H0:Hp)(i:Nat)(p:Pce)(q:PA),vs=[.ref y.w,.ref q.a]∧WalkAt c H0 H y x d as ps cas ras st∧ps[i]?=some p∧as[i]?=some q∧i8 (toB p.row)=p.row∧f d ps p st=some s1∧
 ∀H' cas' ras',WalkAt c H0 H' y x d as ps cas' ras' s1→Q .non H'
theorem qQ(T:Txt K mg c):bU P w K mg base c.Walk "begin_loop" ["self","piece"] 1 (JB c (λd _ p st=>lO d p st)):=by
 refine T.j9.has (k:=0) jn (λvs H Q E h=>?_) (λfa cdv A outer sh0 H vs Q E hr h=>?_)
 ·obtain⟨y,x,d,as,ps,cas,ras,st,s1,H0,i,p,q,rfl,_⟩:=h;rfl
 ·obtain⟨y,x,d,as,ps,cas,ras,st,s1,H0,i,p,q,rfl,S,hp,hq,hrow,hst,k⟩:=h;have hst:lO d p st=some s1:=hst;obtain⟨dw,hw⟩:=S.self;obtain⟨q',dq,hq',e1,e2,e3⟩:=S.uf hp;have:q'=q:=Option.some.inj (hq'.symm.trans hq);subst this;unfold lO at hst;cases hpt:p.cy with
  |none=>rw[hpt]at hst;cases hst
  |some n=>
   cases hsc:st.sc with
   |nil=>rw[hpt,hsc]at hst;cases hst
   |cons s sc=>
    rw[hpt,hsc]at hst;dsimp only at hst;have hsl:=S.sc;rw[hsc]at hsl;have ST:=S.store.same S.base;obtain⟨g,dg,hg,eg,hga⟩:=ST.sc (S.scv s (by rw[hsc];exact List.mem_cons_self))
    rw[←hrow]at e3;obtain⟨ol,g3,g4,g5⟩:=ST.inL hg e3;obtain⟨kvs,hkvs,_,_⟩:=ST.lists s g hg;rw[hpt]at e1
    change H q'.a=some (.ins c.Piece dq (c4 (.int p.aZ) (kdV p.kind) (.ref q'.ra) (.ref q'.ka) (.int (n:Int))))at e1
    refine⟨_,(ag (aI (i:=2) jn.nd rfl (Or.inl rfl) (Ed (jI hr) (ak (dz bD (ak (pv 0) rfl) (dN cf aA) (λ_ _=>rfl)) rfl) (ak (pv 1) rfl) (aU ai) ⟨rfl,rfl,rfl,rfl⟩)) (ah (aP (az (rK hr.x9) (pv 2) (aU ai) (aB _)) (ah (aT (pv 0) (eM iR (ak (pv 1) rfl) aA) rfl)) (ag (ax (dO PySem.F.plainAttrs_list PySem.F.slot_list_append PySem.F.type_list_append bq (ak (pv 0) rfl) (aa (dz bD (pv 2) aA (λ_ _=>rfl)) ai))) (ah (ax (dO PySem.F.plainAttrs_list PySem.F.slot_list_append PySem.F.type_list_append bq (ak (pv 0) rfl) (aa (iA lQ (pv 2) (dy aA) BR) ai)))))))),?_⟩
    try dsimp only[aM]
    refine aS (lg ?_);refine nY ?_;walk_at"rd";refine cQ T hw ?_;walk_at"rd";refine⟨y.sl,_,_,_,rfl,rfl,SqL.of hsl,jg B5 Ip,?_⟩;rw[eg];dsimp only;refine dM T hga ?_;refine⟨g.ld,rfl,.inr ⟨kvs,.inl hkvs⟩,?_⟩;refine nY (fw rfl ?_);refine l7 T e1 ?_;refine zu (jy ⟨Nat.zero_le _,λp1 hp1=>?_⟩);have s1':=ao (o:=.lst []) hp1;have S1:=S.same s1';have ST1:=ST.same s1';obtain⟨ol1,g31,g41,g51⟩:=ST1.inL hg (s1' _ _ e3);refine⟨ol1,g31,?_⟩;rcases ST1.li s (toB p.row)with⟨z1,z2⟩|⟨la,z1,z2,z3⟩
    ·rw[z1]at g51;rw[z2]at hst;dsimp only at hst;injection hst with hst
     rw[g51];walk_at"rd";refine⟨Nat.zero_le _,λp2 hp2=>?_⟩;have s2:=ao (o:=.lst []) hp2;have S2:=S1.same s2;refine⟨p1,p2,[],rfl,rfl,SqL.of (s2 _ _ af),SqL.of af,?_⟩;refine bR (ite_true ?_);walk_at"rd";refine d7 T (s2 _ _ (s1' _ _ e1)) ?_;walk_at"rd";refine kE T (s2 _ _ (s1' _ _ hw)) ?_;have S3:=S2.go (dx:=dw) (n+1);rw[hsc,hst]at S3;exact k _ _ _ S3
    ·rw[z1]at g51;rw[g51];cases hI:itemsIn d s (toB p.row)with
     |nil=>exact absurd hI z2
     |cons j js=>
      rw[hI]at hst z3;dsimp only at hst
      by_cases hlen:st.cm.length<1000∧(s::sc).length<1000
      ·rw[if_pos hlen]at hst;rw[←hsc]at hlen;injection hst with hst
       have hv:∀i∈j::js,i≤d.items.length:=λi hi=>(ow (by rw[hI];exact hi)).2.1
       walk_at"rd";refine⟨Nat.zero_le _,λp2 hp2=>?_⟩;have s2:=ao (o:=.lst []) hp2;have S2:=S1.same s2;refine⟨la,p2,_,rfl,rfl,SqL.of (s2 _ _ z3),SqL.of af,?_⟩;refine bR (ite_false ?_);have hw2:=s2 _ _ (s1' _ _ hw);walk_at"rd";refine cQ T hw2 ?_;refine tyL S2.sc ?_;walk_at"rd";refine⟨la,_,_,x.at j,rfl,rfl,SqL.of (s2 _ _ z3),c6 (j:=0) rfl,?_⟩;walk_at"rd";refine eO S2.sc (by rw[List.length_map,List.length_reverse];exact Nat.lt_trans hlen.2 (by decide)) ?_
       have S3:=S2.DK (j::s::sc) (λi hi=>by
        rcases List.mem_cons.mp hi with z|m
        ·rw[z];exact hv j List.mem_cons_self
        ·exact S.scv i (by rw[hsc];exact m))
       rw[List.reverse_cons,List.map_append,←hsc]at S3;have S3:WalkAt c H0 (upd (upd (upd H p1 (.lst [])) p2 (.lst [])) y.sl (.lst (st.sc.reverse.map x.at++[x.at j]))) y x d as ps cas ras {st with sc:=j::st.sc}:=S3
       obtain⟨dw3,hw3⟩:=S3.self;have hla3:upd (upd (upd H p1 (.lst [])) p2 (.lst [])) y.sl (.lst (st.sc.reverse.map x.at++[x.at j])) la=some (.lst ((j::js).map x.at)):=by
        have mla:la∈x.O:=List.mem_cons_of_mem _ (List.mem_cons_of_mem _ (List.mem_append_right _ (List.mem_append_right _ (List.mem_map.mpr ⟨_,lookup_mem z1,rfl⟩))));have:la≠y.sl:=λz=>by
         have:=S.new y.sl List.mem_cons_self;rw[←z]at this;exact S.store.own mla this
        rw[ae this];exact s2 _ _ z3
       walk_at"rd";refine fW T hw3 ?_;refine tyL S3.cm ?_;walk_at"rd";refine⟨la,_,rfl,SqL.of hla3,λp4 hp4=>?_⟩;rw[show((1:Int))=((1:Nat):Int)from rfl,EW];have s4:=ao (o:=.lst (js.map x.at)) hp4;have S4:=S3.same s4;obtain⟨f1,f2,f3⟩:=S3.free hp4;walk_at"rd";have hcl:=S.cms.len;refine eO S4.cm (by rw[List.length_map,List.length_reverse,hcl];exact Nat.lt_trans hlen.1 (by decide)) ?_
       have S5:=S4.push (ids:=js) af f1 f2 f3 (λi hi=>hv i (List.mem_cons_of_mem _ hi));rw[←hsc]at hst;have:=k _ _ _ (hst▸S5);exact this
      ·rw[if_neg hlen]at hst;cases hst
end
section
open Stencil (textIn itemsIn near known valueOf holdsIn Bytes)
open Sp (i8)
theorem KQ(n:Nat):seqIndex? 0 (n+1)=some 0:=by
 unfold seqIndex?;simp
theorem pJ(T:Txt K mg c):bU P w K mg base c.Walk "end_section" ["self","piece"] 1 (JB c (λ_ ps p st=>x8 ps p st)):=by
 refine T.jE.has (k:=0) pD (λvs H Q E h=>?_) (λfa cdv A outer sh0 H vs Q E hr h=>?_)
 ·obtain⟨y,x,d,as,ps,cas,ras,st,s1,H0,i,p,q,rfl,_⟩:=h;rfl
 ·obtain⟨y,x,d,as,ps,cas,ras,st,s1,H0,i,p,q,rfl,S,hp,hq,hrow,hst,k⟩:=h;have hst:x8 ps p st=some s1:=hst;obtain⟨dw,hw⟩:=S.self;obtain⟨q',dq,hq',e1,e2,e3⟩:=S.uf hp;have:q'=q:=Option.some.inj (hq'.symm.trans hq);subst this;unfold x8 at hst;cases hpt:p.cy with
  |none=>rw[hpt]at hst;cases hst
  |some n=>
   rw[hpt]at hst e1
   change H q'.a=some (.ins c.Piece dq (c4 (.int p.aZ) (kdV p.kind) (.ref q'.ra) (.ref q'.ka) (.int (n:Int))))at e1
   dsimp only at hst;cases hb:ps[n]? with
   |none=>rw[hb]at hst;cases hst
   |some b=>
    rw[hb]at hst;dsimp only at hst;obtain⟨qb,db,hqb,b1,b2,b3⟩:=S.uf hb;have hpl:=S.base _ _ S.pcs.lst;refine⟨_,(ag (aP (az Eh (ak (dz bD (ak (pv 0) rfl) (ak (pv 1) rfl) (λ_ _=>rfl)) rfl) (pg T.yW) (aB _)) (ah FN) aO) (ag (ax (vH PySem.F.plainAttrs_list PySem.F.slot_list_pop PySem.F.type_list_pop vV (ak (pv 0) rfl))) (ah (aP (az (rK hr.x9) (dz bD (ak (pv 0) rfl) (dN cf aA) (λ_ _=>rfl)) (aU ai) (aB _)) (ah (ax (vH PySem.F.plainAttrs_list PySem.F.slot_list_pop PySem.F.type_list_pop vV (ak (pv 0) rfl)))) (ag (ax (dO PySem.F.plainAttrs_list PySem.F.slot_list_append PySem.F.type_list_append bq (ak (pv 0) rfl) (aa (dO PySem.F.plainAttrs_list PySem.F.slot_list_pop PySem.F.type_list_pop En (dz bD (ak (pv 0) rfl) (dN cf aA) (λ_ _=>rfl)) (aa aA ai)) ai))) (ah (aT (pv 0) (eM iR (ak (pv 1) rfl) aA) rfl))))))),?_⟩
    try dsimp only[aM]
    walk_at"rd";refine jw T hw ?_;walk_at"rd";refine d7 T e1 ?_;refine⟨y.pl,_,_,.ref qb.a,rfl,rfl,SqL.of hpl,c6 (j:=n) (by rw[List.getElem?_map,hqb];rfl),?_⟩
    dsimp only;refine cE T b1 ?_;refine r_c (DV (bR ?_));refine cj (λhw3=>?_) (λhw3=>?_)
    ·have hw3:b.aZ≠3:=by simpa using hw3
     rw[if_pos hw3]at hst;injection hst with hst;subst hst
     walk_at"rd";exact k _ _ _ S
    ·have hw3:¬b.aZ≠3:=by simpa using hw3
     rw[if_neg hw3]at hst;cases hsc:st.sc with
     |nil=>rw[hsc]at hst;cases hst
     |cons s sc=>
      cases hcm:st.cm with
      |nil=>rw[hsc,hcm]at hst;cases hst
      |cons ids cm=>
       rw[hsc,hcm]at hst;have hsl:=S.sc;rw[hsc]at hsl;have hcs:=S.cms;rw[hcm]at hcs;cases cas with
       |nil=>cases hcs
       |cons ca cas=>
        walk_at"rd";refine cQ T hw ?_;refine tyL hsl ?_;refine⟨y.sl,_,_,rfl,rfl,hsl,B5,?_⟩;have et:(((s::sc).reverse).map x.at).dropLast=sc.reverse.map x.at:=by
         rw[List.reverse_cons,List.map_append];exact List.dropLast_concat
        rw[et];have S1:=S.DK sc (λi hi=>S.scv i (by rw[hsc];exact List.mem_cons_of_mem _ hi))
        obtain⟨dw1,hw1⟩:=S1.self;have hcs1:=S1.cms;have e01:({st with sc:=sc}:WS).cm=ids::cm:=hcm
        rw[e01]at hcs1;cases hcs1 with
        |cons t1 t2=>
         obtain⟨q1,dq1,hq1,f1,f2,f3⟩:=S1.uf hp;have:q1=q':=Option.some.inj (hq1.symm.trans hq);subst this;rw[hpt]at f1
         generalize upd H y.sl (.lst (sc.reverse.map x.at))=H1 at S1 hw1 t1 f1
         walk_at"rd";refine fW T hw1 ?_;walk_at"rd";refine⟨y.cl,_,_,.ref ca,rfl,rfl,SqL.of S1.cm,jg yG D7,?_⟩;walk_at"rd";refine⟨Nat.zero_le _,λp2 hp2=>?_⟩;have s2:=ao (o:=.lst []) hp2;have S2:=S1.same s2;have hw2:=s2 _ _ hw1;have t12:=s2 _ _ t1;refine⟨ca,p2,_,rfl,rfl,SqL.of t12,SqL.of af,?_⟩;refine bR ?_;cases ids with
         |nil=>
          dsimp only at hst;injection hst with hst;subst hst
          refine ite_true ?_;walk_at"rd";refine fW T hw2 ?_;refine tyL S2.cm ?_;refine⟨y.cl,_,_,rfl,rfl,S2.cm,yG,?_⟩;rw[show(((ca::cas).reverse).map V.ref).dropLast=cas.reverse.map V.ref from by rw[List.reverse_cons,List.map_append];exact List.dropLast_concat]
          exact k _ _ _ (S2.pop e01)
         |cons j js=>
          dsimp only at hst
          by_cases hlen:sc.length<1000
          ·rw[if_pos hlen]at hst;injection hst with hst
           refine ite_false ?_;walk_at"rd";refine cQ T hw2 ?_;refine tyL S2.sc ?_;walk_at"rd";refine fW T hw2 ?_;walk_at"rd";refine⟨y.cl,_,_,.ref ca,rfl,rfl,SqL.of S2.cm,jg yG D7,?_⟩;refine tyL t12 ?_;walk_at"rd";refine⟨ca,_,_,0,x.at j,rfl,rfl,t12,by decide,by decide,KQ _,rfl,?_⟩
           have hv:=S.cmv (j::js) (by rw[hcm];exact List.mem_cons_self)
           have S3:=S2.take (ids':=js) e01 (λi hi=>hv i (List.mem_cons_of_mem _ hi))
           change WalkAt c H0 (upd (upd H1 p2 (.lst [])) ca (.lst (((j::js).map x.at).eraseIdx 0))) y x d as ps (ca::cas) ras _ at S3
           walk_at"rd";refine eO S3.sc (by rw[List.length_map,List.length_reverse];exact Nat.lt_trans hlen (by decide)) ?_
           have S4:=S3.DK (j::sc) (λi hi=>by
            rcases List.mem_cons.mp hi with z|m
            ·rw[z];exact hv j List.mem_cons_self
            ·exact S.scv i (by rw[hsc];exact List.mem_cons_of_mem _ m))
           rw[List.reverse_cons,List.map_append]at S4;obtain⟨dw4,hw4⟩:=S4.self;obtain⟨q4,dq4,hq4,r1,r2,r3⟩:=S4.uf hp;have:q4=q1:=Option.some.inj (hq4.symm.trans hq);subst this;rw[hpt]at r1
           change _=some (HO.ins c.Piece dq4 (c4 (.int p.aZ) (kdV p.kind) (.ref q4.ra) (.ref q4.ka) (.int (n:Int))))at r1
           walk_at"rd";refine d7 T r1 ?_;walk_at"rd";refine kE T hw4 ?_;have S5:=S4.go (dx:=dw4) (n+1);have:=k _ _ _ (hst▸S5);exact this
          ·rw[if_neg hlen]at hst;cases hst
end
section
open Stencil (textIn itemsIn near known valueOf holdsIn Bytes)
open Sp (i8)
def wG(H:Hp)(l:Addr)(R:List (List Int)):Prop:=∃ras:List Addr,H l=some (.lst (ras.map V.ref))∧F2 (λra row=>H ra=some (.lst (row.map V.int))) ras R
def Hr(c:Cs):Sp:=λvs H Q _=>∃(y:WA)(x:SX)(d:SD)(as:List PA)(ps:List Pce)(H0:Hp)(f:Nat)(R:List (List Int)),vs=[.ref y.w]∧WalkAt c H0 H y x d as ps [] [] ⟨0,[0],[],[]⟩∧(∀p∈ps,i8 (toB p.row)=p.row)∧uI d ps f ⟨0,[0],[],[]⟩=some R∧R.length<10000000∧
 ∀H' l,aE H0 H'→wG H' l R→Q (.ref l) H'
theorem yy(T:Txt K mg c):bU P w K mg base c.Walk "walk" ["self"] 2 (Hr c):=by
 refine T.ur.has (k:=1) rp (λvs H Q E h=>?_) (λfa cdv A outer sh0 H vs Q E hr h=>?_)
 ·obtain⟨y,x,d,as,ps,H0,f,R,rfl,_⟩:=h;rfl
 ·obtain⟨y,x,d,as,ps,H0,f0,R,rfl,S0,hrow,hrun,hR,k⟩:=h;refine⟨_,(ag (lh PassesOwn.leaving (az vL (ak (pv 0) rfl) (aK aD (by rfl) T.b8 PySem.boot_len (aa (ak (pv 0) rfl) ai)) (aB _)) (ag (aI (i:=1) rp.nd rfl (Or.inl rfl) (dz bD (ak (pv 0) rfl) (ak (pv 0) rfl) (λ_ _=>rfl))) (ag (bN (pv 0) aA gk) (ah (aP (az bh (ak (pv 1) rfl) (pg T.wC) (aB _)) (ah (ax (dO PySem.F.plainAttrs_list PySem.F.slot_list_append PySem.F.type_list_append bq (ak (pv 0) rfl) (aa (ak (pv 1) rfl) ai)))) (ah (aP (az bh (ak (pv 1) rfl) (pg T.sD) (aB _)) (ah (ax (dO PySem.F.plainAttrs_list PySem.F.slot_list_append PySem.F.type_list_append bq (ak (pv 0) rfl) (aa (pf (tF T) hr nox (aa (ak (pv 0) rfl) (aa (ak (pv 1) rfl) (aa (ak (pv 1) rfl) ai)))) ai)))) (ah (aP (az bh (ak (pv 1) rfl) (pg T.yW) (aB _)) (ah (ax (pm (qQ T) hr nox (pv 0) (aa (pv 1) ai)))) (ah (aP (az bh (ak (pv 1) rfl) (pg T.EX) (aB _)) (ah (ax (pm (pJ T) hr nox (pv 0) (aa (pv 1) ai)))) (ah (aP (az bh (pf (zB T) hr nox (aa (ak (pv 0) rfl) (aa (ak (pv 1) rfl) ai))) (bK bh (ak (pv 1) rfl) (pg T.mE) (aB _)) (aB _)) (ah (aT (pv 0) (eM iR (ak (pv 1) rfl) aA) rfl)) aO))))))))))))) (ah (ay (ak (pv 0) rfl)))),?_⟩
  try dsimp only[aM]
  refine aS ?_;refine⟨λm σ' H'=>∃(v:Option V)(f:Nat)(cas ras:List Addr)(st:WS),σ'=[some (.ref y.w),v]∧m=f∧WalkAt c H0 H' y x d as ps cas ras st∧uI d ps f st=some R,⟨f0,none,f0,[],[],_,rfl,rfl,S0,hrun⟩,?_⟩;rintro m σ' H ⟨v,f,cas,ras,st,rfl,rfl,S,hf⟩;have hrl:=xa hf;cases m with
  |zero=>cases hf
  |succ f=>
  obtain⟨dw,hw⟩:=S.self;have hpl:=S.base _ _ S.pcs.lst;unfold uI at hf;walk_at"rd";refine pW T hw ?_;walk_at"rd";refine jw T hw ?_;walk_at"rd";refine⟨y.pl,_,rfl,.inl (SqL.of hpl),?_⟩;rw[List.length_map,S.pcs.each.len];refine uO (bR ?_);refine cj (λhlt=>?_) (λhlt=>?_)
  ·rw[decide_eq_true_eq]at hlt;have hlt:st.place<ps.length:=by omega
   rw[if_pos hlt]at hf;obtain⟨s1,hs1,hf⟩:=Option.bind_eq_some_iff.mp hf;refine⟨_,λσ' H' h=>h,?_⟩;obtain⟨p,hp⟩:∃p,ps[st.place]?=some p:=⟨_,List.getElem?_eq_getElem hlt⟩;have hpr:=hrow p (List.mem_of_getElem? hp);obtain⟨q,dq,hq,e1,e2,e3⟩:=S.uf hp;walk_at"rd";refine jw T hw ?_;walk_at"rd";refine pW T hw ?_;refine⟨y.pl,_,_,.ref q.a,rfl,rfl,SqL.of hpl,c6 (j:=st.place) (by rw[List.getElem?_map,hq];rfl),?_⟩
   refine cb (aS ?_);refine wZ T hw rfl ⟨1,rfl,hw,?_⟩ (λR S h q=>h _ _ q);have S1:=S.go (dx:=dw) (st.place+1);rw[show((st.place+1:Nat):Int)=(st.place:Int)+1 by omega]at S1
   have f1:upd H y.w (.ins c.Walk dw (cF (.ref y.pl) (.int ((st.place:Int)+1)) (.ref y.sl) (.ref y.cl) (.ref y.rl))) q.a=some (.ins c.Piece dq (c4 (.int p.aZ) (kdV p.kind) (.ref q.ra) (.ref q.ka) (ptV p.cy))):=by
    rw[ae (aF e1 hw (Ne.symm (dW "what" (v:=.int p.aZ) rfl rfl)))];exact e1
   have f2:upd H y.w (.ins c.Walk dw (cF (.ref y.pl) (.int ((st.place:Int)+1)) (.ref y.sl) (.ref y.cl) (.ref y.rl))) q.ra=some (.lst (p.row.map V.int)):=by
    rw[ae (aF e2 hw (by intro z;cases z))];exact e2
   have f3:upd H y.w (.ins c.Walk dw (cF (.ref y.pl) (.int ((st.place:Int)+1)) (.ref y.sl) (.ref y.cl) (.ref y.rl))) q.ka=some (.tup (p.row.map V.int)):=by
    rw[ae (aF e3 hw (by intro z;cases z))];exact e3
   have f4:upd H y.w (.ins c.Walk dw (cF (.ref y.pl) (.int ((st.place:Int)+1)) (.ref y.sl) (.ref y.cl) (.ref y.rl))) y.w=some (.ins c.Walk dw (cF (.ref y.pl) (.int ((st.place:Int)+1)) (.ref y.sl) (.ref y.cl) (.ref y.rl))):=af
   generalize upd H y.w (.ins c.Walk dw (cF (.ref y.pl) (.int ((st.place:Int)+1)) (.ref y.sl) (.ref y.cl) (.ref y.rl)))=H1 at S1 f1 f2 f3 f4
   have fin:∀H' cas' ras',WalkAt c H0 H' y x d as ps cas' ras' s1→∃m',m'<f+1∧∃(v:Option V)(f:Nat)(cas ras:List Addr)(st:WS),([some (.ref y.w),some (.ref q.a)]:L2.St)=[some (.ref y.w),v]∧m'=f∧WalkAt c H0 H' y x d as ps cas ras st∧uI d ps f st=some R:=λH' cas' ras' S'=>⟨f,Nat.lt_succ_self _,_,f,cas',ras',s1,rfl,rfl,S',hf⟩;unfold pN at hs1;rw[hp]at hs1;dsimp only at hs1;have hlr:ras.length<sizeLine:=by rw[S.rls.len];exact Nat.lt_of_le_of_lt hrl (Nat.lt_trans hR (by decide))
   have qn:q.ra∉y.own cas:=λm=>by
    obtain⟨p',hp',⟨_,_⟩,z2,_⟩:=S.pcs.each.get hq;have:p'=p:=Option.some.inj (hp'.symm.trans hp);subst this;rw[S.new _ m]at z2;cases z2
   refine cb (bC (kJ (vC (nY (fw rfl ?_)))));refine cE T f1 ?_;refine r_c (pZ (bR ?_));refine cj (λh1=>?_) (λh1=>?_)
   ·
    rw[decide_eq_true_eq]at h1;rw[if_pos h1]at hs1;injection hs1 with hs1
    walk_at"rd";refine lY T f4 ?_;refine tyL S1.rl ?_;walk_at"rd";refine l6 T f1 ?_;walk_at"rd";refine eO S1.rl (by rw[List.length_map];exact hlr) ?_
    exact fin _ _ _ (hs1▸S1.E4 f2 qn)
   ·rw[decide_eq_false_iff_not]at h1;rw[if_neg h1]at hs1;refine bC (kJ (vC (nY (fw rfl ?_))));refine cE T f1 ?_;refine r_c (pZ (bR ?_));refine cj (λh2=>?_) (λh2=>?_)
    ·
     rw[decide_eq_true_eq]at h2;rw[if_pos h2]at hs1;cases hk:p.kind with
     |none=>rw[hk]at hs1;cases hs1
     |some kd=>
      rw[hk]at hs1 f1;dsimp only at hs1
      by_cases hkd:kd=1∨kd=2∨kd=3
      ·rw[if_pos hkd]at hs1;injection hs1 with hs1
       walk_at"rd";refine lY T f4 ?_;refine tyL S1.rl ?_;walk_at"rd";refine cQ T f4 ?_;walk_at"rd";refine l7 T f1 ?_;walk_at"rd";refine pY T f1 ?_;walk_at"rd";refine⟨y.sl,q.ka,kd,x,d,st.sc,toB p.row,H0,rfl,S1.base,S1.store,S1.sc,S.scv,by rw[hpr];exact f3,hkd,λH2 l s2 hfr hl=>?_⟩
       have S2:=S1.same s2;walk_at"rd";refine eO S2.rl (by rw[List.length_map];exact hlr) ?_
       have ln:l∉y.own cas:=λm=>by
        rcases hfr with z|z
        ·exact z (S.new l m)
        ·exact(S1.free z).1 m
       exact fin _ _ _ (hs1▸S2.E4 hl ln)
      ·rw[if_neg hkd]at hs1;cases hs1
    ·rw[decide_eq_false_iff_not]at h2;rw[if_neg h2]at hs1;refine bC (kJ (vC (nY (fw rfl ?_))));refine cE T f1 ?_;refine r_c (pZ (bR ?_));refine cj (λh3=>?_) (λh3=>?_)
     ·rw[decide_eq_true_eq]at h3;rw[if_pos h3]at hs1;walk_at"rd";refine yU f4 ?_ rfl;walk_at"rd";exact⟨y,x,d,as,ps,cas,ras,_,s1,H0,st.place,p,q,rfl,S1,hp,hq,hpr,hs1,fin⟩
     ·rw[decide_eq_false_iff_not]at h3;rw[if_neg h3]at hs1;refine bC (kJ (vC (nY (fw rfl ?_))));refine cE T f1 ?_;refine r_c (pZ (bR ?_));refine cj (λh6=>?_) (λh6=>?_)
      ·rw[decide_eq_true_eq]at h6;rw[if_pos h6]at hs1;walk_at"rd";refine yU f4 ?_ rfl;walk_at"rd";exact⟨y,x,d,as,ps,cas,ras,_,s1,H0,st.place,p,q,rfl,S1,hp,hq,hpr,hs1,fin⟩
      ·rw[decide_eq_false_iff_not]at h6;rw[if_neg h6]at hs1;walk_at"rd";refine cQ T f4 ?_;walk_at"rd";refine l7 T f1 ?_;walk_at"rd";refine⟨y.sl,q.ka,x,d,st.sc,toB p.row,rfl,S1.store.same S1.base,S1.sc,S.scv,by rw[hpr];exact f3,λH2 s2=>?_⟩
       have S2:=S1.same s2;walk_at"rd";refine cE T (s2 _ _ f1) ?_;refine r_c (pZ (J0 (bR ?_)));refine cj (λh7=>?_) (λh7=>?_)
       ·rw[decide_eq_true_eq]at h7;rw[if_pos h7]at hs1;obtain⟨n,hn,hs1⟩:=Option.map_eq_some_iff.mp hs1;have f1':=s2 _ _ f1;rw[hn]at f1'
        change H2 q.a=some (.ins c.Piece dq (c4 (.int p.aZ) (kdV p.kind) (.ref q.ra) (.ref q.ka) (.int (n:Int))))at f1'
        walk_at"rd";refine d7 T f1' ?_;walk_at"rd";refine kE T (s2 _ _ f4) ?_;exact fin _ _ _ (hs1▸S2.go (dx:=dw) (n+1))
       ·rw[decide_eq_false_iff_not]at h7;rw[if_neg h7]at hs1;injection hs1 with hs1
        refine bw ?_;exact fin _ _ _ (hs1▸S2)
  ·rw[decide_eq_false_iff_not]at hlt;rw[if_neg (by omega)]at hf
   injection hf with hf;subst hf
   walk_at"rd";refine lY T hw ?_;exact k _ _ S.base ⟨ras,S.rl,S.rls⟩
end
section
open Stencil (textIn itemsIn near known valueOf holdsIn Bytes)
open Sp (i8)
def KD(c:Cs):Sp:=λvs H Q _=>∃(w0 dx pl:Addr)(Hb H0:Hp)(x:SX)(d:SD)(as:List PA)(ps:List Pce),vs=[.ref w0,.ref pl,x.at 0]∧H=upd Hb w0 (.ins c.Walk dx [])∧aE H0 Hb∧Hb w0=none∧aH c H0 x d∧di c H0 pl as ps∧
 ∀H' y,y.w=w0→y.pl=pl→WalkAt c H0 H' y x d as ps [] [] ⟨0,[0],[],[]⟩→Q .non H'
theorem yz(T:Txt K mg c):sM P w K mg base c.Walk "Walk" ["self","pieces","outermost"] 1 (KD c):=by
 refine T.gm.has (k:=0) yi (λvs H Q E h=>?_) (λfa cdv A outer sh0 H vs Q E hr h=>?_)
 ·obtain⟨w0,dx,pl,Hb,H0,x,d,as,ps,rfl,_⟩:=h;rfl
 ·obtain⟨w0,dx,pl,Hb,H0,x,d,as,ps,rfl,rfl,b0,hw0,ST,PT,k⟩:=h;refine⟨_,(ag (aT (pv 0) (pv 1) rfl) (ag (aT (pv 0) aA rfl) (ag (aT (pv 0) (aU (aa (pv 2) ai)) rfl) (ag (aT (pv 0) (aU ai) rfl) (ah (aT (pv 0) (aU ai) rfl)))))),?_⟩
  try dsimp only[aM]
  walk_at"rd";refine wi T.gm.cl T.qe (by show 0<1000;decide) ?_
  walk_at"rd";refine wi T.gm.cl T.je (by show 1<1000;decide) ?_
  walk_at"rd";refine⟨by show 1≤sizeLine;decide,λsl hsl=>?_⟩
  have n1:sl≠w0:=λz=>by rw[z,af]at hsl;cases hsl
  rw[ae n1]at hsl;walk_at"rd";refine⟨w0,_,dx,_,rfl,by rw[ae n1.symm];exact af,T.gm.cl,T.qd,by show 2<1000;decide,?_⟩
  walk_at"rd";refine⟨Nat.zero_le _,λcl hcl=>?_⟩;have n2:cl≠w0:=λz=>by rw[z,af]at hcl;cases hcl
  rw[ae n2]at hcl;have n3:cl≠sl:=λz=>by rw[z,af]at hcl;cases hcl
  rw[ae n3,ae n2]at hcl;walk_at"rd";refine⟨w0,_,dx,_,rfl,by rw[ae n2.symm];exact af,T.gm.cl,T.qf,by show 3<1000;decide,?_⟩
  walk_at"rd";refine⟨Nat.zero_le _,λrl hrl=>?_⟩;have n4:rl≠w0:=λz=>by rw[z,af]at hrl;cases hrl
  rw[ae n4]at hrl;have n5:rl≠cl:=λz=>by rw[z,af]at hrl;cases hrl
  rw[ae n5,ae n4]at hrl;have n6:rl≠sl:=λz=>by rw[z,af]at hrl;cases hrl
  rw[ae n6,ae n4]at hrl;walk_at"rd";refine⟨w0,_,dx,_,rfl,by rw[ae n4.symm];exact af,T.gm.cl,T.uj,by show 4<1000;decide,?_⟩
  refine k _ ⟨w0,pl,sl,cl,rl⟩ rfl rfl ⟨λb o e=>?_,ST,PT,⟨dx,af⟩,?_,?_,.nil,?_,.nil,?_,?_,b0.free hw0,(λ_ h=>nomatch h),λj hj=>?_,(λ_ h=>nomatch h)⟩
  ·have e:=b0 _ _ e;have g0:=aw e hw0;rw[ae g0,ae (aw e hrl),ae g0,ae (aw e hcl),ae g0,ae (aw e hsl),ae g0];exact e
  ·show upd _ _ _ sl=_;rw[ae n1,ae n6.symm,ae n1,ae n3.symm,ae n1,af];rfl
  ·show upd _ _ _ cl=_;rw[ae n2,ae n5.symm,ae n2,af];rfl
  ·show upd _ _ _ rl=_;rw[ae n4,af];rfl
  ·unfold WA.own;simp only[List.nodup_cons,List.mem_cons,List.not_mem_nil,or_false,not_or,List.nodup_nil,and_true,not_false_eq_true];exact⟨⟨n3.symm,n6.symm⟩,n5.symm⟩
  ·intro b hb;unfold WA.own at hb;simp only[List.mem_cons,List.not_mem_nil,or_false]at hb;rcases hb with z|z|z
   ·rw[z];exact b0.free hsl
   ·rw[z];exact b0.free hcl
   ·rw[z];exact b0.free hrl
  ·rw[List.mem_singleton.mp hj];exact Nat.zero_le _
def JG(c:Cs):Sp:=λvs H Q _=>∃(pl:Addr)(x:SX)(d:SD)(as:List PA)(ps:List Pce)(f:Nat)(R:List (List Int)),vs=[.ref pl,x.at 0]∧aH c H x d∧di c H pl as ps∧(∀p∈ps,i8 (toB p.row)=p.row)∧uI d ps f ⟨0,[0],[],[]⟩=some R∧R.length<10000000∧
 ∀H' l,aE H H'→wG H' l R→Q (.ref l) H'
theorem vN(T:Txt K mg c):eU P w K mg base "output_rows" ["pieces","outermost"] 3 (JG c):=by
 refine T.qr.has (k:=2) vt (λvs H Q E h=>?_) (λfa cdv A outer sh0 H vs Q E hr h=>?_)
 ·obtain⟨pl,x,d,as,ps,f,R,rfl,_⟩:=h;rfl
 ·obtain⟨pl,x,d,as,ps,f,R,rfl,ST,PT,hrow,hrun,hR,k⟩:=h;refine⟨_,(ah (ay (pm0 (yy T) hr nox (pmk (yz T) hr nox (aa (pv 0) (aa (pv 1) ai)))))),?_⟩
  try dsimp only[aM]
  walk_at"rd";intro a d3 ha hd nd;refine⟨a,d3,pl,_,H,x,d,as,ps,rfl,rfl,ao hd,by rw[ae nd.symm];exact ha,ST,PT,λH' y e1 e2 S=>⟨rfl,?_⟩⟩
  obtain⟨dw,hw⟩:=S.self;rw[←e1];refine yU hw ?_ rfl;walk_at"rd";exact⟨y,x,d,as,ps,H,f,R,rfl,S,hrow,hrun,hR,k⟩
def A3(R:List (List Int)):Int:=(R.map λr=>(r.length:Int)).sum
def Hu(c:Cs):Sp:=λvs H Q _=>∃(l:Addr)(R:List (List Int)),vs=[.ref l]∧wG H l R∧R.length<10000000∧∀H',aE H H'→Q (.int (A3 R)) H'
theorem AM(T:Txt K mg c):eU P w K mg base "size_of" ["rows"] 1 (Hu c):=by
 refine T.xM.has (k:=0) qE (λvs H Q E h=>?_) (λfa cdv A outer sh0 H vs Q E hr h=>?_)
 ·obtain⟨l,R,rfl,_⟩:=h;rfl
 ·obtain⟨l,R,rfl,⟨ras,hl,hr0⟩,hz,k⟩:=h;refine⟨_,(ah (ay (aK (Jc rfl) (by rfl) T.G8 PyProof.Rows.boot_sum (aa (vF (own:=[("row",1)]) rfl qE.nd (j6 (pv 0)) (iO (N:=["rows","row"]) (sc:=aj tj) (by decide+kernel)) (λ_ _ _ _ _=>(cn (i:=1) qE.nd rfl (Or.inl rfl))) (λ_ _ _ _ _=>uZ) (λ_ _ _ _ _=>(aK (wW K) (by rfl) T.b8 PySem.boot_len (aa (pv 1) ai)))) ai)))),?_⟩
  try dsimp only[aM]
  walk_at"rd";have hlen:=hr0.len;refine lcF (λ_=>true) (λv=>match v with|.ref a=>(match H a with|some (.lst xs)=>.int (xs.length:Nat)|_=>.non)|v=>v) (SqL.of hl) (by rw[List.length_map,hlen];exact Nat.lt_trans hz (by decide)) (λy hy H3 Q' s3 q=>q H3 (aE.refl _)) (λy hy _ H3 Q' s3 q=>?_) λD H3 hD s3 hd=>?_
  ·obtain⟨ra,hra,rfl⟩:=List.mem_map.mp hy;obtain⟨j,hj⟩:=List.getElem?_of_mem hra;obtain⟨row,_,e⟩:=hr0.get hj;walk_at"rd";refine⟨ra,_,rfl,.inl (SqL.of (s3 _ _ e)),?_⟩;have q3:=q H3 (aE.refl _);dsimp only at q3;rw[e]at q3;exact q3
  ·walk_at"rd";refine⟨D,R.map λ(r:List Int)=>((r.length:Nat):Int),rfl,SqL.of ?_,k H3 s3⟩;rw[hd,List.filter_eq_self.mpr (λ_ _=>rfl)]
   congr 2
   clear hd hl k hlen hz
   induction hr0 with
   |nil=>rfl
   |cons e _ ih=>
    rw[List.map_cons,List.map_cons,List.map_cons,List.map_cons,ih];dsimp only;rw[e];dsimp only;rw[List.length_map]
def c5(most:Nat)(s:List Int×Nat)(row:List Int):List Int×Nat:=if row.length≤s.2 then(s.1,s.2-row.length)else if s.1.length<most then(s.1++(row.drop s.2).take (most-s.1.length),0)else s
def Jb(R:List (List Int))(from_ most:Nat):List Int:=(R.foldl (c5 most) ([],from_)).1
theorem Ag{most:Nat}{s:List Int×Nat}{row:List Int}(h:s.1.length≤most):(c5 most s row).1.length≤most:=by
 unfold c5
 split
 ·exact h
 ·split
  ·rw[List.length_append,List.length_take];omega
  ·exact h
def JK(c:Cs):Sp:=λvs H Q _=>∃(l:Addr)(R:List (List Int))(f m:Nat),vs=[.ref l,dQ f,dQ m]∧wG H l R∧m≤4096∧∀H' p,aE H H'→H p=none→H' p=some (.lst ((Jb R f m).map V.int))→Q (.ref p) H'
theorem AN(T:Txt K mg c):eU P w K mg base "cut_out" ["rows","from_place","most"] 1 (JK c):=by
 refine T.xO.has (k:=0) gZ (λvs H Q E h=>?_) (λfa cdv A outer sh0 H vs Q E hr h=>?_)
 ·obtain⟨l,R,f,m,rfl,_⟩:=h;rfl
 ·obtain⟨l,R,f,m,rfl,⟨ras,hl,hr0⟩,hm,k⟩:=h;refine⟨_,(ag (aI (i:=3) gZ.nd rfl (Or.inl rfl) (aU ai)) (ag (aI (i:=4) gZ.nd rfl (Or.inl rfl) (pv 1)) (ag (qN PassesOwn.leaving rfl (j6 (pv 0)) (cn (i:=5) gZ.nd rfl (Or.inl rfl)) (ah (aP (az BV (pv 4) (aK aD (by rfl) T.b8 PySem.boot_len (aa (pv 5) ai)) (aB _)) (ah (Io (i:=4) gZ.nd rfl (Or.inl rfl) (aK aD (by rfl) T.b8 PySem.boot_len (aa (pv 5) ai)) IK)) (ah (aP (az vL (aK aD (by rfl) T.b8 PySem.boot_len (aa (pv 3) ai)) (pv 2) (aB _)) (ag (ax (dO PySem.F.plainAttrs_list PySem.F.slot_list_extend PySem.F.type_list_extend tM (pv 3) (aa (iA lQ (pv 5) (dy (pv 4)) (dy (eM vK (eM iR (pv 4) (pv 2)) (aK aD (by rfl) T.b8 PySem.boot_len (aa (pv 3) ai))))) ai))) (ah (aI (i:=4) gZ.nd rfl (Or.inl rfl) aA))) aO))))) (ah (ay (pv 3)))))),?_⟩
  try dsimp only[aM]
  walk_at"rd";refine⟨Nat.zero_le _,λp hp=>?_⟩;have s1:=ao (o:=.lst []) hp;walk_at"rd";refine Kj (λi σ H'=>∃v,σ=[some (.ref l),some (dQ f),some (dQ m),some (.ref p),some (dQ ((R.take i).foldl (c5 m) ([],f)).2),v]∧((R.take i).foldl (c5 m) ([],f)).1.length≤m∧aE H H'∧H' p=some (.lst ((((R.take i).foldl (c5 m) ([],f)).1).map V.int))) rfl (SqL.of (s1 _ _ hl)) ⟨none,rfl,Nat.zero_le _,s1,af⟩ (λi σ H' _⟨_,_,_,s,_⟩=>SqL.of (s _ _ hl)) ?_ ?_
  ·rintro i y σ H' hi ⟨v,rfl,hle,s2,hd⟩;rw[List.getElem?_map]at hi;obtain⟨ra,hra,rfl⟩:=Option.map_eq_some_iff.mp hi;obtain⟨row,hrow,e⟩:=hr0.get hra;have e':=s2 _ _ e;have sn:(R.take (i+1)).foldl (c5 m) ([],f)=c5 m ((R.take i).foldl (c5 m) ([],f)) row:=by
    rw[take_snoc hrow,List.foldl_append];rfl
   have hle':=Ag (row:=row) hle;rw[←sn]at hle'
   generalize hS:(R.take i).foldl (c5 m) ([],f)=S at sn hle hd
   obtain⟨tl,sk⟩:=S;dsimp only at hle hd;have sd:c5 m (tl,sk) row=(if row.length≤sk then(tl,sk-row.length)else if tl.length<m then(tl++(row.drop sk).take (m-tl.length),0)else(tl,sk)):=rfl
   rw[sd]at sn;unfold dQ;walk_at"rd";refine⟨ra,_,rfl,.inl (SqL.of e'),?_⟩;rw[List.length_map];refine uO (bR ?_);refine cj (λhb=>?_) (λhb=>?_)
   ·rw[decide_eq_true_eq]at hb;rw[if_pos (by omega)]at sn
    walk_at"rd";refine⟨ra,_,rfl,.inl (SqL.of e'),?_⟩;rw[List.length_map];walk_at"rd";refine⟨some (.ref ra),?_,hle',s2,by rw[sn];exact hd⟩
    rw[sn];show[_,_,_,_,some (V.int ((sk:Int)-(row.length:Int))),_]=_;rw[show(sk:Int)-(row.length:Int)=((sk-row.length:Nat):Int)by omega]
   ·rw[decide_eq_false_iff_not]at hb;rw[if_neg (by omega)]at sn
    walk_at"rd";refine⟨p,_,rfl,.inl (SqL.of hd),?_⟩;rw[List.length_map];refine fw rfl (uO (bR ?_));refine cj (λhb2=>?_) (λhb2=>?_)
    ·rw[decide_eq_true_eq]at hb2;rw[if_pos (by omega)]at sn
     walk_at"rd";refine tyL hd ?_;walk_at"rd";refine⟨p,_,rfl,.inl (SqL.of hd),?_⟩;rw[List.length_map];walk_at"rd";refine⟨ra,_,rfl,SqL.of e',λq hq=>?_⟩;rw[show(sk:Int)+(m:Int)-(tl.length:Int)=((sk+m-tl.length:Nat):Int)by omega,oN,show sk+m-tl.length-sk=m-tl.length by omega]
     have s3:=ao (o:=.lst (((row.drop sk).take (m-tl.length)).map V.int)) hq;walk_at"rd";refine Ep (s3 _ _ hd) af ?_ ?_
     ·rw[List.length_map,List.length_map,List.length_take];exact Nat.le_trans (show tl.length+min (m-tl.length) (row.drop sk).length≤4096 by omega) (by decide)
     ·walk_at"rd";refine⟨some (.ref ra),?_,hle',aE.upd (s2.trans s3) hp,?_⟩
      ·rw[sn];rfl
      ·rw[af,sn,List.map_append]
    ·rw[decide_eq_false_iff_not]at hb2;rw[if_neg (by omega)]at sn
     refine bw ?_;refine⟨some (.ref ra),?_,hle',s2,by rw[sn];exact hd⟩
     rw[sn];rfl
  ·rintro σ H' ⟨v,rfl,hle,s2,hd⟩;rw[List.length_map,hr0.len,List.take_length]at hd;walk_at"rd";exact k H' p s2 hp hd
def Fs(c:Cs):Sp:=λvs H Q _=>∃(l:Addr)(as:List PA)(ps:List Pce),vs=[.ref l]∧di c H l as ps∧ps.length<100000∧∀H' l' as',aE H H'→di c H' l' as' (ps.filter λp=>decide (p.aZ=2))→Q (.ref l') H'
def yJ(H:Hp)(v:V):Bool:=match v with
 |.ref a=>(match H a with
  |some (.ins _ _ fs)=>decide (fs.lookup ("what":Str)=some (.int 2))
  |_=>false)
 |_=>false
theorem xG{H:Hp}{q:PA}{p:Pce}{dx:Addr}(e:H q.a=some (.ins c.Piece dx (mQ q p))):yJ H (.ref q.a)=decide (p.aZ=2):=by
 unfold yJ;dsimp only;rw[e];dsimp only;rw[show(mQ q p).lookup ("what":Str)=some (.int p.aZ)from rfl];simp
theorem zE(T:Txt K mg c):eU P w K mg base "holes_of" ["pieces"] 1 (Fs c):=by
 refine T.wm.has (k:=0) nJ (λvs H Q E h=>?_) (λfa cdv A outer sh0 H vs Q E hr h=>?_)
 ·obtain⟨l,as,ps,rfl,_⟩:=h;rfl
 ·obtain⟨l,as,ps,rfl,PT,hz,k⟩:=h;refine⟨_,(ah (ay (vF (own:=[("piece",1)]) rfl nJ.nd (j6 (pv 0)) (iO (N:=["pieces","piece"]) (sc:=aj qJ) (by decide+kernel)) (λ_ _ _ _ _=>(cn (i:=1) nJ.nd rfl (Or.inl rfl))) (λ_ _ _ _ _=>(uY (az bh (FV K (pv 1) rfl) (pg T.sD) (aB _)))) (λ_ _ _ _ _=>(pv 1))))),?_⟩
  try dsimp only[aM]
  walk_at"rd";have hlen:=PT.each.len;refine lcF (yJ H) (λv=>v) (SqL.of PT.lst) (by rw[List.length_map,hlen];exact Nat.lt_trans hz (by decide)) (λy hy H3 Q' s3 q=>?_) (λy hy _ H3 Q' s3 q=>?_) λD H3 hD s3 hd=>?_
  ·obtain⟨qq,hqq,rfl⟩:=List.mem_map.mp hy;obtain⟨j,hj⟩:=List.getElem?_of_mem hqq;obtain⟨p,hp,⟨dx,e1⟩,e2,e3⟩:=PT.each.get hj;walk_at"rd";refine cE T (s3 _ _ e1) ?_;refine r_c (pZ (bR ?_));have q3:=q H3 (aE.refl _);rw[xG e1]at q3;exact q3
  ·walk_at"rd";exact q H3 (aE.refl _)
  ·have key:∀{as:List PA}{ps:List Pce},F2 (λq p=>c7 c H q p) as ps→∃as',((as.map λq=>V.ref q.a).filter (yJ H))=(as'.map λq=>V.ref q.a)∧F2 (λq p=>c7 c H q p) as' (ps.filter λp=>decide (p.aZ=2)):=by
    intro as ps g
    induction g with
    |nil=>exact⟨[],rfl,.nil⟩
    |@cons a b l m hx _ ih=>
     obtain⟨as',i1,i2⟩:=ih;obtain⟨⟨dx,e1⟩,e2,e3⟩:=id hx;rw[List.map_cons,List.filter_cons,List.filter_cons];rw[xG e1];cases hb:decide (b.aZ=2)with
     |true=>exact⟨a::as',by rw[if_pos rfl,i1];rfl,by rw[if_pos rfl];exact .cons hx i2⟩
     |false=>exact⟨as',by rw[if_neg Bool.false_ne_true,i1],by rw[if_neg Bool.false_ne_true];exact i2⟩
   obtain⟨as',i1,i2⟩:=key PT.each;refine k H3 D as' s3 ⟨?_,i2.imp λq p h=>h.same s3⟩;rw[hd,i1,List.map_id']
end
section
open Stencil (Bytes next letter nameByte blank refOf beginsRef takes parts)
open Sp (i8)
abbrev Plc:=Stencil.Place
def hd:Bytes→Int
 |[]=>256
 |c::_=>((c.toNat:Nat):Int)
theorem sh(b:Bytes)(k:Nat):(i8 b).drop k=i8 (b.drop k):=by unfold i8;rw[List.map_drop]
theorem lj(b:Bytes)(k:Nat):pk (i8 b) k=hd (b.drop k):=by
 unfold pk;rw[List.getD_eq_getElem?_getD];rcases Nat.lt_or_ge k b.length with h|h
 ·rw[List.drop_eq_getElem_cons h];unfold i8;rw[List.getElem?_map,List.getElem?_eq_getElem h];rfl
 ·rw[List.drop_eq_nil_of_le h,List.getElem?_eq_none (by rw[Sp.aQ];exact h)];rfl
theorem bz{b xs ys:Bytes}{k:Nat}(h:b.drop k=xs++ys):b.drop (k+xs.length)=ys:=by
 rw[←List.drop_drop,h,List.drop_left]
theorem run_eq{P:Int→Bool}{p:UInt8→Bool}(hp:∀c:UInt8,P ((c.toNat:Nat):Int)=p c)(b:Bytes)(k:Nat):run P (i8 b) k=k+((b.drop k).takeWhile p).length:=by
 unfold run;rw[sh];unfold i8;rw[List.takeWhile_map,List.length_map,show(P∘λ(c:UInt8)=>((c.toNat:Nat):Int))=p from funext hp]
theorem Fz{P:Int→Bool}{p:UInt8→Bool}(hp:∀c:UInt8,P ((c.toNat:Nat):Int)=p c)(b:Bytes)(k n:Nat):runN P (i8 b) k n=k+(((b.drop k).take n).takeWhile p).length:=by
 unfold runN;rw[sh];unfold i8;rw[←List.map_take,List.takeWhile_map,List.length_map,show(P∘λ(c:UInt8)=>((c.toNat:Nat):Int))=p from funext hp]
theorem z4{l:Bytes}{z:UInt8}:hd l=((z.toNat:Nat):Int)↔∃r,l=z::r:=by
 constructor
 ·intro h;cases l with
  |nil=>have:=z.toNat_lt;have:(256:Int)=((z.toNat:Nat):Int):=h;omega
  |cons c r=>
   have h:((c.toNat:Nat):Int)=((z.toNat:Nat):Int):=h;exact⟨r,by rw[UInt8.toNat_inj.mp (by omega:c.toNat=z.toNat)]⟩
 ·rintro⟨r,rfl⟩;rfl
theorem xH{l:Bytes}:cN (hd l)=true↔∃c r,l=c::r∧letter c=true:=by
 cases l with
 |nil=>
  constructor
  ·intro h;exact absurd h (by decide)
  ·rintro⟨c,r,h,_⟩;cases h
 |cons c r=>
  show cN ((c.toNat:Nat):Int)=true↔_;rw[hJ];exact⟨λh=>⟨c,r,rfl,h⟩,by rintro⟨_,_,h,q⟩;cases h;exact q⟩
theorem EZ{c:UInt8}{n:Nat}(hn:n<256):((c.toNat:Nat):Int)=(n:Int)↔c=UInt8.ofNat n:=by
 constructor
 ·intro h;apply UInt8.toNat_inj.mp;rw[UInt8.toNat_ofNat',Nat.mod_eq_of_lt hn];omega
 ·rintro rfl;rw[UInt8.toNat_ofNat',Nat.mod_eq_of_lt hn]
def mid(p:Plc):Bool:=!parts p
def go(tm:Bool):Plc→Bytes→Option Plc
 |p,[]=>some p
 |p,c::r=>if(tm&&(!mid p&&c==123))=true then none else(next p c).bind λq=>go tm q r
theorem EJ{tm:Bool}{xs ys:Bytes}:∀{p:Plc},go tm p (xs++ys)=(go tm p xs).bind λq=>go tm q ys:=by
 induction xs with
 |nil=>intro p;rfl
 |cons c r ih=>
  intro p;have e:∀l,go tm p (c::l)=if(tm&&(!mid p&&c==123))=true then none else(next p c).bind λq=>go tm q l:=λ_=>rfl
  rw[List.cons_append,e,e]
  split
  ·rfl
  ·cases next p c with
   |none=>rfl
   |some q=>exact ih
theorem gp{tm:Bool}{p q:Plc}{c:UInt8}(h:next p c=some q)(hm:tm=false∨mid p=true∨c≠123):go tm p [c]=some q:=by
 unfold go;rw[h,if_neg]
 ·rfl
 ·simp only[Bool.and_eq_true,beq_iff_eq,Bool.not_eq_true'];rintro⟨h1,h2,h3⟩;rcases hm with z|z|z
  ·rw[z]at h1;cases h1
  ·rw[z]at h2;cases h2
  ·exact z h3
theorem jf{tm:Bool}{p q:Plc}{c:UInt8}{r:Bytes}(h:next p c=some q)(hm:tm=false∨mid p=true∨c≠123):go tm p (c::r)=go tm q r:=by
 show go tm p ([c]++r)=_;rw[EJ,gp h hm];rfl
def Stop(tm:Bool)(q:Plc)(ys:Bytes):Prop:=(ys=[]∧q≠.text)∨∃c r,ys=c::r∧next q c=none∧(tm=false∨mid q=true∨c≠123)
def plc(k:Int):Plc:=if k=1 then .text else if k=2 then .value 34 else if k=3 then .value 39 else if k=4 then .gap else .tag
def lK(n:Bytes):Prop:=∃c r,n=c::r∧letter c=true∧r.all nameByte=true
inductive Pc:Int→Bytes→Int→Nat→List Tok→Prop
 |plain {κ:Int} {c:UInt8} {k:Nat} (h:next (plc κ) c=some (plc κ)) (h1:κ=1∨κ=2∨κ=3) (h2:c≠60) (h3:c≠38) (h4:plc κ≠.value c):Pc κ [c] κ k [⟨6,κ,k,k+1⟩]
 |ref {κ:Int} {n:Bytes} {k:Nat} (h1:κ=1∨κ=2∨κ=3) (h:(refOf n).isSome=true) (h2:∀i,i<n.length→beginsRef (n.take (i+1))=true) (h3:∀c∈n,c≠59):Pc κ (38::(n++[59])) κ k [⟨7,κ,k,k+n.length+2⟩]
 |close {n:Bytes} {k:Nat} (h:lK n):Pc 1 (60::47::(n++[62])) 1 k [⟨5,1,k+2,k+2+n.length⟩]
 |opn {n:Bytes} {k:Nat} (h:lK n):Pc 1 (60::(n++[62])) 1 k [⟨2,1,k+1,k+1+n.length⟩]
 |F1 {n:Bytes} {c:UInt8} {k:Nat} (h:lK n) (hc:blank c=true):Pc 1 (60::(n++[c])) 4 k [⟨2,1,k+1,k+1+n.length⟩]
 |quote {κ:Int} {c:UInt8} {k:Nat} (h:(κ=2∧c=34)∨(κ=3∧c=39)):Pc κ [c] 5 k []
 |attr {n:Bytes} {c:UInt8} {κ:Int} {k:Nat} (h:lK n) (hc:(κ=2∧c=34)∨(κ=3∧c=39)):Pc 4 (n++[61,c]) κ k [⟨3,4,k,k+n.length⟩,⟨4,κ,k+n.length+2,k+n.length+2⟩]
 |blk {κ:Int} {c:UInt8} {k:Nat} (h:κ=4∨κ=5) (hc:blank c=true):Pc κ [c] 4 k []
 |gt {κ:Int} {k:Nat} (h:κ=4∨κ=5):Pc κ [62] 1 k []
theorem rV{c:UInt8}(h:nameByte c=true):c≠123∧blank c=false∧c≠62∧c≠61:=by
 have:=cv (P:=λc=>!nameByte c||(c !=123&&(!blank c&&(c !=62&&c !=61)))) (by decide+kernel) c
 rw[h]at this
 simpa using this
theorem vY{c:UInt8}(h:letter c=true):nameByte c=true∧c≠47∧blank c=false:=by
 have:=cv (P:=λc=>!letter c||(nameByte c&&(c !=47&&!blank c))) (by decide+kernel) c
 rw[h]at this
 simpa using this
theorem vb{tm:Bool}{F:Bytes→Plc}(hF:∀s c,nameByte c=true→next (F s) c=some (F (s++[c]))):∀{r:Bytes}{s:Bytes},r.all nameByte=true→go tm (F s) r=some (F (s++r))
 |[],s,_=>by rw[List.append_nil];rfl
 |c::r,s,h=>by
  rw[List.all_cons,Bool.and_eq_true]at h;rw[jf (hF s c h.1) (.inr (.inr (rV h.1).1)),vb hF h.2,List.append_assoc];rfl
theorem BW(s:Bytes)(c:UInt8)(h:nameByte c=true):next (.name s) c=some (.name (s++[c])):=by
 show(if nameByte c=true then _ else _)=_;rw[if_pos h]
theorem BX(s:Bytes)(c:UInt8)(h:nameByte c=true):next (.attr s) c=some (.attr (s++[c])):=by
 show(if nameByte c=true then _ else _)=_;rw[if_pos h]
theorem zG(a:UInt8)(s:Bytes)(c:UInt8)(h:nameByte c=true):next (.close (a::s)) c=some (.close (a::(s++[c]))):=by
 simp[next,h]
theorem EH{tm:Bool}{n:Bytes}(h:lK n):go tm .lt n=some (.name n):=by
 obtain⟨c,r,rfl,h1,h2⟩:=h;rw[jf (q:=.name [c]) (by show(if letter c=true then _ else _)=_;rw[if_pos h1]) (.inr (.inl rfl)),vb BW h2];rfl
theorem G6{tm:Bool}{n:Bytes}(h:lK n):go tm (.close []) n=some (.close n):=by
 obtain⟨c,r,rfl,h1,h2⟩:=h;rw[jf (q:=.close [c]) (by simp[next,h1]) (.inr (.inl rfl)),vb (F:=λs=>.close (c::s)) (zG c) h2];rfl
theorem Ba{tm:Bool}{n:Bytes}(h:lK n):go tm .gap n=some (.attr n):=by
 obtain⟨c,r,rfl,h1,h2⟩:=h;obtain⟨l1,l2,l3⟩:=vY h1;rw[jf (q:=.attr [c]) (by show(if blank c=true then _ else if letter c=true then _ else _)=_;rw[l3,if_neg Bool.false_ne_true,if_pos h1]) (.inr (.inr (rV l1).1)),vb BX h2];rfl
end
section
open Stencil (Bytes next letter nameByte blank refOf beginsRef takes parts)
open Sp (i8)
def Out(tm:Bool)(st:SS)(l:Bytes)(res:Except Nat SS):Prop:=
 (∃xs ys κ ts,l=xs++ys∧Pc st.kind xs κ st.place ts∧res=.ok {st with place:=st.place+xs.length,kind:=κ,toks:=st.toks++ts})∨
 ∃xs ys q,l=xs++ys∧go tm (plc st.kind) xs=some q∧Stop tm q ys∧res=.error (st.place+xs.length)
section
variable {b l:Bytes}{st:SS}{tm:Bool}
theorem oC(w:Int)(h:b.drop st.place=l):(∃n ys,l=n++ys∧lK n∧(∀c r,ys=c::r→nameByte c=false)∧qm w (i8 b) st=.ok {st with place:=st.place+n.length,toks:=st.toks++[⟨w,st.kind,st.place,st.place+n.length⟩]})∨
  ((∀c r,l=c::r→letter c=false)∧qm w (i8 b) st=.error st.place):=by
 unfold qm tk;rw[lj,h];cases hl:cN (hd l)with
 |false=>
  right
  refine⟨λc r e=>?_,rfl⟩;cases hc:letter c with
  |false=>rfl
  |true=>rw[xH.mpr ⟨c,r,e,hc⟩]at hl;cases hl
 |true=>
  left
  obtain⟨c,r,rfl,hc⟩:=xH.mp hl;refine⟨c::r.takeWhile nameByte,r.dropWhile nameByte,?_,⟨c,_,rfl,hc,List.all_takeWhile⟩,λd s e=>?_,?_⟩
  ·rw[List.cons_append,List.takeWhile_append_dropWhile]
  ·have:=List.head?_dropWhile_not (p:=nameByte) (l:=r);rw[e]at this
   simpa using this
  ·show Except.ok (nt w st.place {st with place:=run fMk (i8 b) (st.place+1)})=_
   have e1:b.drop (st.place+1)=r:=bz (xs:=[c]) h;rw[run_eq IV,e1];unfold nt;rw[List.length_cons,show st.place+1+(r.takeWhile nameByte).length=st.place+((r.takeWhile nameByte).length+1)by omega]
theorem lP{q:Plc}{ys:Bytes}(h1:mid q=true)(h2:∀c r,ys=c::r→next q c=none):Stop tm q ys:=by
 cases ys with
 |nil=>exact .inl ⟨rfl,λz=>by rw[z]at h1;cases h1⟩
 |cons c r=>exact .inr ⟨c,r,rfl,h2 c r rfl,.inr (.inl h1)⟩
theorem uR{q:Plc}{c:UInt8}{r:Bytes}(h:next q c=none)(hc:tm=false∨mid q=true∨c≠123):Stop tm q (c::r):=.inr ⟨c,r,rfl,h,hc⟩
theorem Bw{z:UInt8}(h:b.drop st.place=l):(∃r,l=z::r∧tk (decide (pk (i8 b) st.place=((z.toNat:Nat):Int))) st=.ok {st with place:=st.place+1})∨((∀r,l≠z::r)∧tk (decide (pk (i8 b) st.place=((z.toNat:Nat):Int))) st=.error st.place):=by
 rw[lj,h]
 by_cases e:hd l=((z.toNat:Nat):Int)
 ·obtain⟨r,rfl⟩:=z4.mp e;exact .inl ⟨r,rfl,by rw[decide_eq_true e];rfl⟩
 ·exact .inr ⟨λr q=>e (by rw[q];rfl),by rw[decide_eq_false e];rfl⟩
theorem r9(h:b.drop st.place=l):(∃c r,l=c::r∧blank c=true∧jH (i8 b) st=.ok {st with place:=st.place+1,kind:=4})∨(∃r,l=62::r∧jH (i8 b) st=.ok {st with place:=st.place+1,kind:=1})∨
  ((∀c r,l=c::r→blank c=false∧c≠62)∧jH (i8 b) st=.error st.place):=by
 unfold jH tk;rw[lj,h];cases l with
 |nil=>exact .inr (.inr ⟨λc r e=>(by cases e),rfl⟩)
 |cons c r=>
  show _∨_∨_;rw[show hd (c::r)=((c.toNat:Nat):Int)from rfl,Df];cases hb:blank c with
  |true=>
   refine .inl ⟨c,r,rfl,hb,?_⟩;have:c≠62:=by rintro rfl;revert hb;decide
   have:¬((c.toNat:Nat):Int)=62:=λz=>this ((EZ (n:=62) (by decide)).mp z)
   show Except.ok {st with place:=st.place+1,kind:=if((c.toNat:Nat):Int)=62 then 1 else 4}=_
   rw[if_neg this]
  |false=>
   by_cases e:c=62
   ·subst e;exact .inr (.inl ⟨r,rfl,rfl⟩)
   ·have:¬((c.toNat:Nat):Int)=62:=λz=>e ((EZ (n:=62) (by decide)).mp z)
    refine .inr (.inr ⟨λd s q=>(by cases q;exact⟨hb,e⟩),?_⟩)
    rw[decide_eq_false this];rfl
theorem Ej{c:UInt8}{n:Bytes}(hn:n≠[])(h1:nameByte c=false)(h2:c≠62):next (.close n) c=none:=by
 simp[next,hn,h1,h2]
theorem F8{c:UInt8}{n:Bytes}(h1:nameByte c=false)(h2:blank c=false)(h3:c≠62):next (.name n) c=none:=by
 simp[next,h1,h2,h3]
theorem lK.ne{n:Bytes}(h:lK n):n≠[]:=by obtain⟨c,r,rfl,_⟩:=h;exactλz=>nomatch z
theorem gq{p q r:Plc}{xs ys:Bytes}(h1:go tm p xs=some q)(h2:go tm q ys=some r):go tm p (xs++ys)=some r:=by
 rw[EJ,h1];exact h2
theorem EK:go tm .text [60]=some .lt:=gp rfl (.inr (.inr (by decide)))
theorem Bb:go tm .text [60,47]=some (.close []):=gq (xs:=[60]) EK (gp rfl (.inr (.inl rfl)))
theorem Es(hk:st.kind=1){l1:Bytes}(h:b.drop st.place=60::l1):Out tm st (60::l1) (zN (i8 b) st):=by
 unfold zN;have h1:b.drop (st.place+1)=l1:=bz (xs:=[60]) h;rw[lj,h1]
 by_cases e:hd l1=47
 ·rw[if_pos e];obtain⟨l2,rfl⟩:=(z4 (z:=47)).mp e;have h2:b.drop (st.place+2)=l2:=bz (xs:=[60,47]) h;rcases oC (st:={st with place:=st.place+2}) 5 h2 with⟨n,ys,rfl,hn,hy,q⟩|⟨hy,q⟩
  ·rw[q];have h3:b.drop (st.place+2+n.length)=ys:=bz h2;rcases Bw (st:={st with place:=st.place+2+n.length,toks:=st.toks++[⟨5,st.kind,st.place+2,st.place+2+n.length⟩]}) (z:=62) h3 with⟨r,rfl,q2⟩|⟨hy2,q2⟩
   ·refine .inl ⟨60::47::(n++[62]),r,1,_,by simp,by rw[hk];exact .close hn,q2.trans ?_⟩
    simp only[List.length_cons,List.length_append,List.length_nil,hk]
    congr 2;omega
   ·refine .inr ⟨[60,47]++n,ys,.close n,by simp,by rw[hk];exact gq Bb (G6 hn),?_,q2.trans ?_⟩
    ·refine lP rfl λc r e=>?_;exact Ej hn.ne (hy c r e) λz=>hy2 r (by rw[e,z])
    ·simp only[List.length_cons,List.length_append,List.length_nil];congr 1;omega
  ·rw[q];refine .inr ⟨[60,47],l2,.close [],rfl,by rw[hk];exact Bb,lP rfl λc r e=>?_,rfl⟩
   simp[next,hy c r e]
 ·rw[if_neg e];rcases oC (st:={st with place:=st.place+1}) 2 h1 with⟨n,ys,rfl,hn,hy,q⟩|⟨hy,q⟩
  ·rw[q];have h3:b.drop (st.place+1+n.length)=ys:=bz h1;show Out tm st _ (jH (i8 b) {st with place:=st.place+1+n.length,toks:=st.toks++[⟨2,st.kind,st.place+1,st.place+1+n.length⟩]})
   rcases r9 (st:={st with place:=st.place+1+n.length,toks:=st.toks++[⟨2,st.kind,st.place+1,st.place+1+n.length⟩]}) h3 with⟨c,r,rfl,hc,q2⟩|⟨r,rfl,q2⟩|⟨hy2,q2⟩
   ·refine .inl ⟨60::(n++[c]),r,4,_,by simp,by rw[hk];exact .F1 hn hc,q2.trans ?_⟩
    simp only[List.length_cons,List.length_append,List.length_nil,hk]
    congr 2;omega
   ·refine .inl ⟨60::(n++[62]),r,1,_,by simp,by rw[hk];exact .opn hn,q2.trans ?_⟩
    simp only[List.length_cons,List.length_append,List.length_nil,hk]
    congr 2;omega
   ·refine .inr ⟨[60]++n,ys,.name n,by simp,by rw[hk];exact gq EK (EH hn),?_,q2.trans ?_⟩
    ·refine lP rfl λc r e=>?_;exact F8 (hy c r e) (hy2 c r e).1 (hy2 c r e).2
    ·simp only[List.length_cons,List.length_append,List.length_nil];congr 1;omega
  ·rw[q];refine .inr ⟨[60],l1,.lt,rfl,by rw[hk];exact EK,lP rfl λc r e2=>?_,rfl⟩
   have:c≠47:=λz=>e (by rw[e2,z];rfl)
   simp[next,hy c r e2,this]
theorem F9{c:UInt8}{n:Bytes}(h1:nameByte c=false)(h2:c≠61):next (.attr n) c=none:=by
 simp[next,h1,h2]
theorem CY(hk:st.kind=4){c:UInt8}{r:Bytes}(hc:letter c=true)(h:b.drop st.place=c::r):Out tm st (c::r) (xB (i8 b) st):=by
 unfold xB;rcases oC 3 h with⟨n,ys,e,hn,hy,q⟩|⟨hy,q⟩
 ·rw[q,e];rw[e]at h;have h1:=bz h;show Out tm st _ ((tk _ {st with place:=st.place+n.length,toks:=st.toks++[⟨3,st.kind,st.place,st.place+n.length⟩]}).bind _)
  rcases Bw (st:={st with place:=st.place+n.length,toks:=st.toks++[⟨3,st.kind,st.place,st.place+n.length⟩]}) (z:=61) h1 with⟨r1,rfl,q2⟩|⟨hy2,q2⟩
  ·rw[show(61:Int)=(((61:UInt8).toNat:Nat):Int)from rfl,q2];have h2:b.drop (st.place+n.length+1)=r1:=bz (xs:=[61]) h1;show Out tm st _ ((tk _ {st with place:=st.place+n.length+1,toks:=st.toks++[⟨3,st.kind,st.place,st.place+n.length⟩]}).bind _)
   have g1:go tm (plc st.kind) (n++[61])=some .eq:=by rw[hk];exact gq (Ba hn) (gp (by simp[next];decide) (.inr (.inl rfl)))
   unfold tk;dsimp only;rw[lj,h2];have ok:∀(z:UInt8)(κ:Int)(r2:Bytes),((κ=2∧z=34)∨(κ=3∧z=39))→Aa ((z.toNat:Nat):Int)=κ→Out tm st (n++61::z::r2) (.ok (nt 4 (st.place+n.length+1+1) ⟨st.place+n.length+1+1,Aa ((z.toNat:Nat):Int),st.aV,st.toks++[⟨3,st.kind,st.place,st.place+n.length⟩]⟩)):=λz κ r2 hz hq=>by
    refine .inl ⟨n++[61,z],r2,κ,_,by simp,by rw[hk];exact .attr hn hz,?_⟩
    unfold nt;simp only[List.length_cons,List.length_append,List.length_nil,hk,hq,List.append_assoc];rfl
   by_cases e1:∃r2,r1=34::r2
   ·obtain⟨r2,rfl⟩:=e1;exact ok 34 2 r2 (.inl ⟨rfl,rfl⟩) rfl
   ·by_cases e2:∃r2,r1=39::r2
    ·obtain⟨r2,rfl⟩:=e2;exact ok 39 3 r2 (.inr ⟨rfl,rfl⟩) rfl
    ·have e34:¬hd r1=34:=λz=>e1 ((z4 (z:=34)).mp z);have e39:¬hd r1=39:=λz=>e2 ((z4 (z:=39)).mp z);rw[show[34,39].contains (hd r1)=false from by simp[e34,e39]]
     refine .inr ⟨n++[61],r1,.eq,by simp,g1,lP rfl λd s e=>?_,?_⟩
     ·have n1:d≠34:=λz=>e1 ⟨s,by rw[e,z]⟩
      have n2:d≠39:=λz=>e2 ⟨s,by rw[e,z]⟩
      simp[next,n1,n2]
     ·simp only[List.length_cons,List.length_append,List.length_nil];rfl
  ·rw[show(61:Int)=(((61:UInt8).toNat:Nat):Int)from rfl,q2];refine .inr ⟨n,ys,.attr n,rfl,by rw[hk];exact Ba hn,lP rfl λd s e=>?_,rfl⟩
   exact F9 (hy d s e) λz=>hy2 s (by rw[e,z])
 ·rw[hy c r rfl]at hc;cases hc
end
end
section
open Stencil (Bytes next letter nameByte blank refOf beginsRef takes parts)
open Sp (i8)
def tbl:List (Bytes×List Str):=[([],dc.map (·.1)),([108],["t;"]),([103],["t;"]),([108,116],[";"]),([103,116],[";"]),([97],["mp;","pos;"]),([97,109],["p;"]),([97,109,112],[";"]),
 ([97,112],["os;"]),([97,112,111],["s;"]),([97,112,111,115],[";"]),([113],["uot;"]),([113,117],["ot;"]),([113,117,111],["t;"]),([113,117,111,116],[";"])]
theorem zg:∀e∈tbl,e.2≠[("":Str)]∧e.1.length≤4∧fL 256 e.2=[]∧∀n:Nat,n<256→(if n=59 then(if(refOf e.1).isSome=true then fL 59 e.2=[("":Str)]else fL 59 e.2=[])else if beginsRef (e.1++[UInt8.ofNat n])=true then fL (n:Int) e.2≠[]∧(e.1++[UInt8.ofNat n],fL (n:Int) e.2)∈tbl else fL (n:Int) e.2=[]):=by
 repeat (refine List.forall_mem_cons.mpr ⟨by decide+kernel,?_⟩)
 exactλ_ z=>nomatch z
section
variable {b l:Bytes}{st:SS}{tm:Bool}
structure x6(G:Bytes→Plc)(R:Plc):Prop where
 nx:∀s c,next (G s) c=if c=59 then(if(refOf s).isSome=true then some R else none)else if beginsRef (s++[c])=true then some (G (s++[c]))else none
 md:∀s,mid (G s)=true
theorem inText:x6 .textRef .text:=⟨λ_ _=>rfl,λ_=>rfl⟩
theorem B7(q:UInt8):x6 (.valueRef q) (.value q):=⟨λ_ _=>rfl,λ_=>rfl⟩
theorem HX{G:Bytes→Plc}{R:Plc}(g:x6 G R):∀{f:Nat}{s:Bytes}{es:List Str}{k:Nat}{l:Bytes},(s,es)∈tbl→f+s.length=30→b.drop k=l→
  (∃n ys,l=n++59::ys∧(refOf (s++n)).isSome=true∧(∀i,i<n.length→beginsRef (s++n.take (i+1))=true)∧(∀c∈n,c≠59)∧jx (i8 b) f es k=.ok (k+n.length+1))∨
  ∃n ys,l=n++ys∧jx (i8 b) f es k=.error (k+n.length)∧go tm (G s) n=some (G (s++n))∧Stop tm (G (s++n)) ys:=by
 intro f
 induction f with
 |zero=>
  intro s es k l ht hf _;have:=(zg _ ht).2.1;dsimp only at this;omega
 |succ f ih=>
  intro s es k l ht hf hl;obtain⟨t1,t2,t3,t4⟩:=zg _ ht;dsimp only at t1 t2 t3 t4;have e0:jx (i8 b) (f+1) es k=if fL (hd l) es=[]then .error k else jx (i8 b) f (fL (hd l) es) (k+1):=by
   show(if es=[("":Str)]then _ else if fL (pk (i8 b) k) es=[]then _ else _)=_
   rw[if_neg t1,lj,hl]
  rw[e0];cases l with
  |nil=>
   right
   refine⟨[],[],rfl,?_,by rw[List.append_nil];rfl,lP (g.md _) λ_ _ e=>(by cases e)⟩
   exact if_pos t3
  |cons c r=>
   have t:=t4 c.toNat c.toNat_lt;rw[UInt8.ofNat_toNat]at t
   by_cases h59:c=59
   ·subst h59;rw[if_pos (show(59:UInt8).toNat=59 from rfl)]at t
    by_cases hr:(refOf s).isSome=true
    ·rw[if_pos hr]at t
     left
     refine⟨[],r,rfl,by rw[List.append_nil];exact hr,λi hi=>absurd hi (Nat.not_lt_zero _),λ_ h=>(by cases h),?_⟩
     show(if fL 59 es=[]then _ else jx (i8 b) f (fL 59 es) (k+1))=_
     rw[t,if_neg (by simp)]
     have:∃f',f=f'+1:=⟨f-1,by omega⟩
     obtain⟨f',rfl⟩:=this;show(if[("":Str)]=[("":Str)]then _ else _)=_
     rw[if_pos rfl];rfl
    ·rw[if_neg hr]at t
     right
     refine⟨[],59::r,rfl,?_,by rw[List.append_nil];rfl,uR ?_ (.inr (.inl (g.md _)))⟩
     ·show(if fL 59 es=[]then _ else _)=_
      rw[if_pos t];rfl
     ·rw[List.append_nil,g.nx,if_pos rfl,if_neg hr]
   ·have n59:¬c.toNat=59:=λz=>h59 (UInt8.toNat_inj.mp z);rw[if_neg n59]at t
    by_cases hb:beginsRef (s++[c])=true
    ·rw[if_pos hb]at t;show _∨_;have e1:(if fL (hd (c::r)) es=[]then Except.error k else jx (i8 b) f (fL (hd (c::r)) es) (k+1))=jx (i8 b) f (fL ((c.toNat:Nat):Int) es) (k+1):=if_neg t.1
     rw[e1];have gc:next (G s) c=some (G (s++[c])):=by rw[g.nx,if_neg h59,if_pos hb]
     rcases ih (s:=s++[c]) t.2 (by rw[List.length_append,List.length_cons,List.length_nil];omega) (bz (xs:=[c]) hl)with⟨n,ys,rfl,h1,h2,h3,h4⟩|⟨n,ys,rfl,h1,h2,h3⟩
     ·left
      refine⟨c::n,ys,rfl,by rw[←List.append_cons]at h1;exact h1,λi hi=>?_,λd hd=>?_,h4.trans ?_⟩
      ·cases i with
       |zero=>exact hb
       |succ i=>
        have:=h2 i (Nat.lt_of_succ_lt_succ hi);rw[List.append_assoc]at this;exact this
      ·rcases List.mem_cons.mp hd with z|z
       ·rw[z];exact h59
       ·exact h3 d z
      ·simp only[List.length_cons,List.length_nil];congr 1;omega
     ·right
      refine⟨c::n,ys,rfl,h1.trans ?_,?_,?_⟩
      ·simp only[List.length_cons,List.length_nil];congr 1;omega
      ·rw[jf gc (.inr (.inl (g.md _))),h2,List.append_assoc];rfl
      ·rw[List.append_assoc]at h3;exact h3
    ·rw[if_neg hb]at t
     right
     refine⟨[],c::r,rfl,?_,by rw[List.append_nil];rfl,uR ?_ (.inr (.inl (g.md _)))⟩
     ·show(if fL ((c.toNat:Nat):Int) es=[]then _ else _)=_
      rw[if_pos t];rfl
     ·rw[List.append_nil,g.nx,if_neg h59,if_neg hb]
theorem IQ{G:Bytes→Plc}{R:Plc}(g:x6 G R){n:Bytes}(h:(refOf n).isSome=true)(h2:∀i,i<n.length→beginsRef (n.take (i+1))=true)(h3:∀c∈n,c≠59):go tm (G []) (n++[59])=some R:=by
 have key:∀(m s:Bytes),n=s++m→go tm (G s) m=some (G n):=by
  intro m
  induction m with
  |nil=>intro s e;rw[e,List.append_nil];rfl
  |cons c m ih=>
   intro s e;have hc:c≠59:=h3 c (by rw[e];exact List.mem_append_right _ List.mem_cons_self)
   have hb:beginsRef (s++[c])=true:=by
    have:=h2 s.length (by rw[e,List.length_append,List.length_cons];omega)
    rw[e,List.take_append,List.take_of_length_le (by omega),show s.length+1-s.length=1 by omega]at this
    exact this
   rw[jf (q:=G (s++[c])) (by rw[g.nx,if_neg hc,if_pos hb]) (.inr (.inl (g.md _)))]
   exact ih (s++[c]) (by rw[e,List.append_assoc];rfl)
 refine gq (key n [] rfl) (gp (by rw[g.nx,if_pos rfl,if_pos h]) (.inr (.inl (g.md _))))
theorem Ez{κ:Int}(h:κ=1∨κ=2∨κ=3):∃G,x6 G (plc κ)∧next (plc κ) 38=some (G []):=by
 rcases h with rfl|rfl|rfl
 ·exact⟨_,inText,rfl⟩
 ·exact⟨_,B7 34,rfl⟩
 ·exact⟨_,B7 39,rfl⟩
theorem zQ(hk:st.kind=1∨st.kind=2∨st.kind=3){l1:Bytes}(h:b.drop st.place=38::l1):Out tm st (38::l1) (zR (i8 b) st):=by
 obtain⟨G,g,h38⟩:=Ez hk;have h1:b.drop (st.place+1)=l1:=bz (xs:=[38]) h;unfold zR;rcases HX (tm:=tm) g (f:=30) (s:=[]) (es:=dc.map (·.1)) List.mem_cons_self rfl h1 with⟨n,ys,rfl,q1,q2,q3,q4⟩|⟨n,ys,rfl,q1,q2,q3⟩
 ·rw[q4];refine .inl ⟨38::(n++[59]),ys,st.kind,_,by simp,.ref hk q1 q2 q3,?_⟩
  show Except.ok (nt 7 st.place {st with place:=st.place+1+n.length+1})=_
  unfold nt;simp only[List.length_cons,List.length_append,List.length_nil];rw[show st.place+1+n.length+1=st.place+n.length+2 by omega,show st.place+(n.length+(0+1)+1)=st.place+n.length+2 by omega]
 ·rw[q1];refine .inr ⟨38::n,ys,_,rfl,(jf h38 (.inr (.inr (by decide)))).trans q2,q3,?_⟩
  rw[List.length_cons];show Except.error _=_
  congr 1;omega
theorem G3{κ κ':Int}{xs:Bytes}{k:Nat}{ts:List Tok}(h:Pc κ xs κ' k ts)(h0:tm=false∨xs.head?≠some 123):go tm (plc κ) xs=some (plc κ'):=by
 cases h with
 |plain h=>exact gp h (h0.imp id λz=>.inr λe=>z (by rw[e];rfl))
 |ref h1 h h2 h3=>
  obtain⟨G,g,h38⟩:=Ez h1;rw[jf h38 (.inr (.inr (by decide)))]
  exact IQ g h h2 h3
 |close h=>
  exact gq (xs:=[60,47]) Bb (gq (G6 h) (gp (by have:=h.ne;simp[next,this];rw[if_neg (by decide)];rfl) (.inr (.inl rfl))))
 |opn h=>exact gq (xs:=[60]) EK (gq (EH h) (gp rfl (.inr (.inl rfl))))
 |@F1 n c k h hc=>
  refine gq (xs:=[60]) EK (gq (EH h) (gp ?_ (.inr (.inl rfl))));have hn:nameByte c=false:=by
   cases e:nameByte c with
   |false=>rfl
   |true=>rw[(rV e).2.1]at hc;cases hc
  show(if nameByte c=true then _ else if blank c=true then _ else _)=_
  rw[hn,if_neg Bool.false_ne_true,if_pos hc];rfl
 |quote h=>
  rcases h with⟨rfl,rfl⟩|⟨rfl,rfl⟩<;>exact gp rfl (.inr (.inr (by decide)))
 |attr h hc=>
  refine gq (Ba h) ?_;rw[jf (q:=.eq) (by simp[next];decide) (.inr (.inl rfl))]
  rcases hc with⟨rfl,rfl⟩|⟨rfl,rfl⟩<;>exact gp rfl (.inr (.inl rfl))
 |blk h hc=>
  have:∀c,blank c=true→c≠123:=λc=>by rintro h rfl;revert h;decide
  rcases h with rfl|rfl
  ·exact gp (by show(if blank _=true then _ else _)=_;rw[if_pos hc];rfl) (.inr (.inr (this _ hc)))
  ·exact gp (by show(if blank _=true then _ else _)=_;rw[if_pos hc];rfl) (.inr (.inr (this _ hc)))
 |gt h=>
  rcases h with rfl|rfl<;>exact gp rfl (.inr (.inr (by decide)))
theorem rJ{κ κ':Int}{xs:Bytes}{k:Nat}{ts:List Tok}(h:Pc κ xs κ' k ts):1≤xs.length∧(κ'=1∨κ'=2∨κ'=3∨κ'=4∨κ'=5):=by
 cases h with
 |plain h h1=>exact⟨Nat.le_refl _,by omega⟩
 |ref h1=>exact⟨by simp,by omega⟩
 |close=>exact⟨by simp,by omega⟩
 |opn=>exact⟨by simp,by omega⟩
 |F1=>exact⟨by simp,by omega⟩
 |quote=>exact⟨Nat.le_refl _,by omega⟩
 |attr h hc=>exact⟨by simp,by omega⟩
 |blk=>exact⟨Nat.le_refl _,by omega⟩
 |gt=>exact⟨Nat.le_refl _,by omega⟩
theorem qV(hk:st.kind=1∨st.kind=2∨st.kind=3∨st.kind=4∨st.kind=5){c:UInt8}{r:Bytes}(h:b.drop st.place=c::r)(h0:tm=false∨c≠123):Out tm st (c::r) (iV (i8 b) tm st):=by
 have hp:pk (i8 b) st.place=((c.toNat:Nat):Int):=by rw[lj,h];rfl
 have ne:∀n:Nat,n<256→c≠UInt8.ofNat n→¬((c.toNat:Nat):Int)=(n:Int):=λn hn hc z=>hc ((EZ hn).mp z);unfold iV;rw[if_neg (by
  rw[Bool.and_eq_true,decide_eq_true_eq,hp];rintro⟨z1,z2⟩;rcases h0 with z|z
  ·rw[z]at z1;cases z1
  ·exact ne 123 (by decide) z z2)]
 have plain:(st.kind=1∨st.kind=2∨st.kind=3)→c≠60→c≠38→plc st.kind≠.value c→Out tm st (c::r) (.ok (tN st)):=λh1 h2 h3 h4=>by
  refine .inl ⟨[c],r,st.kind,_,rfl,.plain ?_ h1 h2 h3 h4,rfl⟩;rcases h1 with z|z|z
  ·rw[z];show(if c=60 then _ else if c=38 then _ else _)=_
   rw[if_neg h2,if_neg h3];rfl
  ·rw[z]at h4⊢;have:c≠34:=λq=>h4 (by rw[q];rfl)
   show(if c=34 then _ else if c=60 then _ else if c=38 then _ else _)=_
   rw[if_neg this,if_neg h2,if_neg h3];rfl
  ·rw[z]at h4⊢;have:c≠39:=λq=>h4 (by rw[q];rfl)
   show(if c=39 then _ else if c=60 then _ else if c=38 then _ else _)=_
   rw[if_neg this,if_neg h2,if_neg h3];rfl
 by_cases k1:st.kind=1
 ·rw[if_pos k1];unfold vW;rw[hp]
  by_cases c60:c=60
  ·subst c60;rw[if_pos (show(((60:UInt8).toNat:Nat):Int)=60 from rfl)];exact Es k1 h
  ·rw[if_neg (show¬((c.toNat:Nat):Int)=60 from ne 60 (by decide) c60)]
   by_cases c38:c=38
   ·subst c38;rw[if_pos (show(((38:UInt8).toNat:Nat):Int)=38 from rfl)];exact zQ (.inl k1) h
   ·rw[if_neg (show¬((c.toNat:Nat):Int)=38 from ne 38 (by decide) c38)]
    exact plain (.inl k1) c60 c38 (by rw[k1];exactλz=>nomatch z)
 ·rw[if_neg k1]
  by_cases kv:st.kind=2∨st.kind=3
  ·obtain⟨q,hq,hpl,hin,hqq,hq6⟩:∃q:UInt8,xQ st.kind=((q.toNat:Nat):Int)∧plc st.kind=.value q∧yP st.kind=true∧((st.kind=2∧q=34)∨(st.kind=3∧q=39))∧q≠60:=by
    rcases kv with z|z
    ·exact⟨34,by rw[z];rfl,by rw[z];rfl,by rw[z];rfl,.inl ⟨z,rfl⟩,by decide⟩
    ·exact⟨39,by rw[z];rfl,by rw[z];rfl,by rw[z];rfl,.inr ⟨z,rfl⟩,by decide⟩
   rw[if_pos hin];unfold AX;rw[hp,hq]
   by_cases cq:c=q
   ·subst cq;rw[if_pos rfl];exact .inl ⟨[c],r,5,[],rfl,.quote hqq,by rw[List.append_nil];rfl⟩
   ·rw[if_neg (λz=>cq (UInt8.toNat_inj.mp (by omega)))]
    by_cases c38:c=38
    ·subst c38;rw[if_pos (show(((38:UInt8).toNat:Nat):Int)=38 from rfl)];exact zQ (.inr kv) h
    ·rw[if_neg (show¬((c.toNat:Nat):Int)=38 from ne 38 (by decide) c38)]
     by_cases c60:c=60
     ·subst c60;rw[if_pos (show(((60:UInt8).toNat:Nat):Int)=60 from rfl)];refine .inr ⟨[],_,plc st.kind,rfl,rfl,uR ?_ (.inr (.inr (by decide))),rfl⟩
      rw[hpl];show(if(60:UInt8)=q then _ else if(60:UInt8)=60 then _ else _)=_
      rw[if_neg cq,if_pos rfl]
     ·rw[if_neg (show¬((c.toNat:Nat):Int)=60 from ne 60 (by decide) c60)]
      exact plain (.inr kv) c60 c38 (by rw[hpl];intro z;injection z with z;exact cq z.symm)
  ·have kt:st.kind=4∨st.kind=5:=by omega
   rw[if_neg (by rcases kt with z|z<;>(rw[z];decide))]
   unfold qW
   by_cases ka:(decide (st.kind=4)&&cN (pk (i8 b) st.place))=true
   ·rw[if_pos ka];rw[Bool.and_eq_true,decide_eq_true_eq,hp,hJ]at ka;exact CY ka.1 ka.2 h
   ·rw[if_neg ka];rcases r9 h with⟨d,s,e,hb,q⟩|⟨s,e,q⟩|⟨hy,q⟩
    ·injection e with e1 e2;subst e1
     rw[q];exact .inl ⟨[c],r,4,[],rfl,.blk kt hb,by rw[List.append_nil];rfl⟩
    ·injection e with e1 e2;subst e1
     rw[q];exact .inl ⟨[62],r,1,[],rfl,.gt kt,by rw[List.append_nil];rfl⟩
    ·rw[q];obtain⟨y1,y2⟩:=hy c r rfl;refine .inr ⟨[],_,plc st.kind,rfl,rfl,uR ?_ (h0.imp id .inr),rfl⟩;rcases kt with z|z
     ·rw[z,decide_eq_true rfl,Bool.true_and,hp,hJ,Bool.not_eq_true]at ka;rw[z];show(if blank c=true then _ else if letter c=true then _ else if c=62 then _ else _)=_
      rw[y1,ka,if_neg Bool.false_ne_true,if_neg Bool.false_ne_true,if_neg y2]
     ·rw[z];show(if blank c=true then _ else if c=62 then _ else _)=_
      rw[y1,if_neg Bool.false_ne_true,if_neg y2]
end
end
section
open Stencil (Bytes next letter nameByte blank refOf beginsRef takes parts markFault readAll Reader kindOf saidBy flush eventsOf)
open Sp (i8)
abbrev Evt:=Stencil.Event
section
variable {b l:Bytes}{st:SS}
theorem G4{xs ys:Bytes}:∀{p q:Plc}{k:Nat},go false p xs=some q→markFault p (xs++ys) k=markFault q ys (k+xs.length):=by
 induction xs with
 |nil=>intro p q k h;injection h with h;subst h;rfl
 |cons c r ih=>
  intro p q k h;have h:(next p c).bind (λm=>go false m r)=some q:=h
  obtain⟨m,h1,h2⟩:=Option.bind_eq_some_iff.mp h;show(match next p c with|some q=>markFault q (r++ys) (k+1)|none=>some k)=_
  rw[h1];show markFault m (r++ys) (k+1)=_;rw[ih h2,List.length_cons];congr 1;omega
theorem Gb{q:Plc}{ys:Bytes}{k:Nat}(h:Stop false q ys):markFault q ys k=some k:=by
 rcases h with⟨rfl,h⟩|⟨c,r,rfl,h,_⟩
 ·show(if q=.text then none else some k)=_
  rw[if_neg h]
 ·show(match next q c with|some q=>markFault q r (k+1)|none=>some k)=_
  rw[h]
theorem lA{κ:Int}(hk:κ=1∨κ=2∨κ=3∨κ=4∨κ=5):plc κ=.text↔κ=1:=by
 rcases hk with rfl|rfl|rfl|rfl|rfl<;>simp[plc]
theorem qX{c:UInt8}{r:Bytes}{k:Nat}(h:b.drop k=c::r):k<(i8 b).length:=by
 rw[Sp.aQ];rcases Nat.lt_or_ge k b.length with z|z
 ·exact z
 ·rw[List.drop_eq_nil_of_le z]at h;cases h
theorem qY{k:Nat}(h:b.drop k=[]):¬k<(i8 b).length:=by
 rw[Sp.aQ];intro z;rw[List.drop_eq_getElem_cons z]at h;cases h
theorem Ak:∀{f:Nat}{st:SS}{l:Bytes},(st.kind=1∨st.kind=2∨st.kind=3∨st.kind=4∨st.kind=5)→b.drop st.place=l→l.length<f→st.aV=[]→
  match markFault (plc st.kind) l st.place with
  |none=>∃ts,cp (i8 b) false f st=.ok ts
  |some k=>cp (i8 b) false f st=.error k
 |0,st,l,_,_,h,_=>absurd h (Nat.not_lt_zero _)
 |f+1,st,l,hk,hl,hf,hs=>by
  cases l with
  |nil=>
   show match(if plc st.kind=.text then none else some st.place)with|none=>_|some k=>_
   have e:cp (i8 b) false (f+1) st=if st.kind≠1∨st.aV≠[]then .error st.place else .ok st.toks:=if_neg (qY hl)
   rw[e]
   by_cases h1:st.kind=1
   ·rw[if_pos ((lA hk).mpr h1),if_neg (by rintro(z|z);exact z h1;exact z hs)]
    exact⟨_,rfl⟩
   ·rw[if_neg (λz=>h1 ((lA hk).mp z)),if_pos (.inl h1)]
  |cons c r=>
   have e:cp (i8 b) false (f+1) st=(iV (i8 b) false st).bind (cp (i8 b) false f):=if_pos (qX hl);rw[e];rcases qV (tm:=false) hk hl (.inl rfl)with⟨xs,ys,κ,ts,e1,pc,e2⟩|⟨xs,ys,q,e1,g,sp,e2⟩
   ·obtain⟨x1,x2⟩:=rJ pc;rw[e2,e1,G4 (G3 pc (.inl rfl))];rw[e1]at hl;exact Ak (st:={st with place:=st.place+xs.length,kind:=κ,toks:=st.toks++ts}) x2 (bz hl) (by rw[e1,List.length_append]at hf;omega) hs
   ·rw[e2,e1,G4 g,Gb sp];rfl
def enc(e:Evt):Thg:=(kindOf e,i8 (saidBy e))
def NT(ev:List Evt):Prop:=(ev.map enc).getLast?.map (·.1)≠some 1
def Rel(κ:Int)(buf:Bytes)(ev:List Evt)(acc:List Thg):Prop:=
 (κ=1∧NT ev∧acc=(ev++flush buf).map enc)∨((κ=2∨κ=3)∧acc=ev.map enc++[(4,i8 buf)])∨((κ=4∨κ=5)∧NT ev∧buf=[]∧acc=ev.map enc)
theorem yl{xs ys:Bytes}:∀{r:Reader},readAll r (xs++ys)=(readAll r xs).bind λq=>readAll q ys:=by
 induction xs with
 |nil=>intro r;rfl
 |cons c s ih=>
  intro r;show(Stencil.step r c).bind (λq=>readAll q (s++ys))=((Stencil.step r c).bind λq=>readAll q s).bind _;cases Stencil.step r c with
  |none=>rfl
  |some q=>exact ih
theorem JP{xs:Bytes}:∀{p q:Plc}{buf:Bytes}{ev:List Evt},go false p xs=some q→∃buf' ev',readAll ⟨p,buf,ev⟩ xs=some ⟨q,buf',ev'⟩:=by
 induction xs with
 |nil=>intro p q buf ev h;injection h with h;subst h;exact⟨_,_,rfl⟩
 |cons c r ih=>
  intro p q buf ev h;have h:(next p c).bind (λm=>go false m r)=some q:=h
  obtain⟨m,h1,h2⟩:=Option.bind_eq_some_iff.mp h;have:∃buf' ev',Stencil.step ⟨p,buf,ev⟩ c=some ⟨m,buf',ev'⟩:=by
   unfold Stencil.step;dsimp only;rw[h1];dsimp only[Option.map]
   split<;>exact⟨_,_,rfl⟩
  obtain⟨b1,v1,e⟩:=this;obtain⟨b2,v2,e2⟩:=ih (buf:=b1) (ev:=v1) h2;exact⟨b2,v2,by show(Stencil.step _ c).bind _=_;rw[e];exact e2⟩
theorem FG{q:Plc}{ys buf:Bytes}{ev:List Evt}(h:Stop false q ys):(readAll ⟨q,buf,ev⟩ ys).bind Reader.told=none:=by
 rcases h with⟨rfl,h⟩|⟨c,r,rfl,h,_⟩
 ·show(if q=.text then _ else none)=_
  rw[if_neg h]
 ·have:Stencil.step ⟨q,buf,ev⟩ c=none:=by unfold Stencil.step;dsimp only;rw[h];rfl
  show((Stencil.step _ c).bind _).bind _=_;rw[this];rfl
@[reducible] def act (p q:Plc) (c:UInt8) (buf:Bytes) (ev:List Evt):Reader:=match p,q with
 |.text,.text=>⟨q,buf++[c],ev⟩
 |.text,.lt=>⟨q,[],ev++flush buf⟩
 |.textRef s,.text=>⟨q,buf++(refOf s).toList,ev⟩
 |.name s,.gap=>⟨q,[],ev++[.opening s]⟩
 |.name s,.text=>⟨q,[],ev++[.opening s]⟩
 |.attr s,.eq=>⟨q,[],ev++[.attr s]⟩
 |.value _,.value _=>⟨q,buf++[c],ev⟩
 |.value _,.tag=>⟨q,[],ev++[.val buf]⟩
 |.valueRef _ s,.value _=>⟨q,buf++(refOf s).toList,ev⟩
 |.close s,.text=>⟨q,[],ev++[.closing s]⟩
 |_,_=>⟨q,buf,ev⟩
theorem rd1{p q:Plc}{c:UInt8}{r buf:Bytes}{ev:List Evt}(h:next p c=some q):readAll ⟨p,buf,ev⟩ (c::r)=readAll (act p q c buf ev) r:=by
 show(Stencil.step _ c).bind _=_;unfold Stencil.step;dsimp only;rw[h];cases p<;>cases q<;>rfl
theorem rdT{p q:Plc}{c:UInt8}{r buf:Bytes}{ev:List Evt}{r2:Reader}{res:Option Reader}(h:next p c=some q)(ha:act p q c buf ev=r2)(h2:readAll r2 r=res):readAll ⟨p,buf,ev⟩ (c::r)=res:=by
 rw[rd1 h,ha];exact h2
theorem rdA{xs ys:Bytes}{r1 r2:Reader}{res:Option Reader}(h:readAll r1 xs=some r2)(h2:readAll r2 ys=res):readAll r1 (xs++ys)=res:=by
 rw[yl,h];exact h2
theorem uW{F:Bytes→Plc}(hF:∀s c,nameByte c=true→next (F s) c=some (F (s++[c])))(hS:∀s s' c buf ev r,next (F s) c=some (F s')→readAll ⟨F s,buf,ev⟩ (c::r)=readAll ⟨F s',buf,ev⟩ r){buf:Bytes}{ev:List Evt}:∀{r:Bytes}{s:Bytes},r.all nameByte=true→readAll ⟨F s,buf,ev⟩ r=some ⟨F (s++r),buf,ev⟩
 |[],s,_=>by rw[List.append_nil];rfl
 |c::r,s,h=>by
  rw[List.all_cons,Bool.and_eq_true]at h;rw[hS s (s++[c]) c buf ev r (hF s c h.1),uW hF hS h.2,List.append_assoc];rfl
theorem GU{n buf:Bytes}{ev:List Evt}(h:lK n):readAll ⟨.lt,buf,ev⟩ n=some ⟨.name n,buf,ev⟩:=by
 obtain⟨c,r,rfl,h1,h2⟩:=h;rw[rd1 (q:=.name [c]) (by show(if letter c=true then _ else _)=_;rw[if_pos h1])]
 exact uW BW (λs s' c buf ev r h=>rd1 h) h2
theorem JQ{n buf:Bytes}{ev:List Evt}(h:lK n):readAll ⟨.close [],buf,ev⟩ n=some ⟨.close n,buf,ev⟩:=by
 obtain⟨c,r,rfl,h1,h2⟩:=h;rw[rd1 (q:=.close [c]) (by simp[next,h1])]
 exact uW (F:=λs=>.close (c::s)) (zG c) (λs s' c buf ev r h=>rd1 h) h2
theorem HY{n buf:Bytes}{ev:List Evt}(h:lK n):readAll ⟨.gap,buf,ev⟩ n=some ⟨.attr n,buf,ev⟩:=by
 obtain⟨c,r,rfl,h1,h2⟩:=h;obtain⟨l1,l2,l3⟩:=vY h1;rw[rd1 (q:=.attr [c]) (by show(if blank c=true then _ else if letter c=true then _ else _)=_;rw[l3,if_neg Bool.false_ne_true,if_pos h1])]
 exact uW BX (λs s' c buf ev r h=>rd1 h) h2
theorem AB{G:Bytes→Plc}{R:Plc}(g:x6 G R){n buf:Bytes}{ev:List Evt}(h:(refOf n).isSome=true)(h2:∀i,i<n.length→beginsRef (n.take (i+1))=true)(h3:∀c∈n,c≠59)
  (hS:∀s s' c buf ev r,next (G s) c=some (G s')→readAll ⟨G s,buf,ev⟩ (c::r)=readAll ⟨G s',buf,ev⟩ r)(hE:∀s c buf ev r,next (G s) c=some R→readAll ⟨G s,buf,ev⟩ (c::r)=readAll ⟨R,buf++(refOf s).toList,ev⟩ r):readAll ⟨G [],buf,ev⟩ (n++[59])=some ⟨R,buf++(refOf n).toList,ev⟩:=by
 have key:∀(m s:Bytes),n=s++m→readAll ⟨G s,buf,ev⟩ m=some ⟨G n,buf,ev⟩:=by
  intro m
  induction m with
  |nil=>intro s e;rw[e,List.append_nil];rfl
  |cons c m ih=>
   intro s e;have hc:c≠59:=h3 c (by rw[e];exact List.mem_append_right _ List.mem_cons_self)
   have hb:beginsRef (s++[c])=true:=by
    have:=h2 s.length (by rw[e,List.length_append,List.length_cons];omega)
    rw[e,List.take_append,List.take_of_length_le (by omega),show s.length+1-s.length=1 by omega]at this
    exact this
   rw[hS s (s++[c]) c _ _ _ (by rw[g.nx,if_neg hc,if_pos hb])]
   exact ih (s++[c]) (by rw[e,List.append_assoc];rfl)
 rw[yl,key n [] rfl];show readAll ⟨G n,buf,ev⟩ [59]=_;rw[hE n 59 _ _ _ (by rw[g.nx,if_pos rfl,if_pos h])];rfl
theorem qC{k:Nat}{xs ys:Bytes}(h:b.drop k=xs++ys):sub (i8 b) k (k+xs.length)=i8 xs:=by
 unfold sub;rw[sh,h,Sp.oF,show k+xs.length-k=(i8 xs).length by rw[Sp.aQ];omega,List.take_left]
theorem HW{n:Bytes}(h:(refOf n).isSome=true):∃c,refOf n=some c∧nW (38::(i8 n++[59]))=some ((c.toNat:Nat):Int):=by
 unfold refOf at h;rw[Option.isSome_map]at h;obtain⟨x,hx⟩:=Option.isSome_iff_exists.mp h;have m:=List.mem_of_find?_eq_some hx;have e:=List.find?_some hx;have e:x.1=n:=eq_of_beq e;have:∀x∈Stencil.refs,∃c,refOf x.1=some c∧nW (38::(i8 x.1++[59]))=some ((c.toNat:Nat):Int):=by
  intro x hx;have:∀x∈Stencil.refs,refOf x.1=some x.2∧nW (38::(i8 x.1++[59]))=some ((x.2.toNat:Nat):Int):=by decide+kernel
  exact⟨x.2,this x hx⟩
 rw[←e];exact this x m
theorem vj{r:List Int}{acc:List Thg}{w κ:Int}{i j:Nat}(hw:[6,7].contains w=false):kY r acc ⟨w,κ,i,j⟩=some (acc++[(w,sub r i j)]):=if_pos hw
theorem Bx{r:List Int}{acc A:List Thg}{w κ z x1:Int}{x2:List Int}{i j:Nat}(hw:[6,7].contains w=true)(hp:mj acc κ=A++[(x1,x2)])(hb:(if w=7 then nW (sub r i j)else(sub r i j).head?)=some z):kY r acc ⟨w,κ,i,j⟩=some (A++[(x1,x2++[z])]):=by
 unfold kY;dsimp only;rw[if_neg (by rw[hw];decide),hp,hb,List.getLast?_append,List.dropLast_append_of_ne_nil (by simp)]
 simp
theorem D6{acc:List Thg}{κ:Int}(h:κ≠1):mj acc κ=acc:=if_neg λz=>h z.1
theorem Bc(buf:Bytes)(c:UInt8):flush (buf++[c])=[.text (buf++[c])]:=if_neg (by simp)
theorem CO{ev:List Evt}{buf:Bytes}(h:NT ev):mj ((ev++flush buf).map enc) 1=ev.map enc++[(1,i8 buf)]:=by
 unfold mj flush
 by_cases hb:buf=[]
 ·subst hb;rw[if_pos rfl,List.append_nil,if_pos ⟨rfl,.inr h⟩];rfl
 ·rw[if_neg hb,List.map_append,if_neg]
  ·rfl
  ·rintro⟨_,z|z⟩
   ·simp at z
   ·rw[List.getLast?_append]at z;exact z rfl
theorem zr{κ z w:Int}{c:UInt8}{i j:Nat}{buf:Bytes}{ev:List Evt}{acc:List Thg}(hk:κ=1∨κ=2∨κ=3)(R:Rel κ buf ev acc)(hw:[6,7].contains w=true)(hb:(if w=7 then nW (sub (i8 b) i j)else(sub (i8 b) i j).head?)=some ((c.toNat:Nat):Int)):
  ∃acc',kY (i8 b) acc ⟨w,κ,i,j⟩=some acc'∧Rel κ (buf++[c]) ev acc':=by
 have e8:i8 buf++[((c.toNat:Nat):Int)]=i8 (buf++[c]):=by rw[Sp.oF];rfl
 rcases R with⟨k1,nt,e⟩|⟨k2,e⟩|⟨k4,_⟩
 ·subst k1;rw[e];refine⟨_,Bx hw (CO nt) hb,.inl ⟨rfl,nt,?_⟩⟩;rw[e8,Bc,List.map_append];rfl
 ·refine⟨_,Bx hw ((D6 (by omega)).trans e) hb,.inr (.inl ⟨k2,?_⟩)⟩
  rw[e8]
 ·omega
theorem jj{r:List Int}{ts:List Tok}{t:Tok}{acc acc':List Thg}(h:told r ts=some acc)(h2:kY r acc t=some acc'):told r (ts++[t])=some acc':=by rw[sV,h];exact h2
theorem u7{ev:List Evt}{e:Evt}(h:kindOf e≠1):NT (ev++[e]):=by
 unfold NT;rw[List.map_append,List.getLast?_append];show some (kindOf e)≠some 1;exactλz=>h (Option.some.inj z)
theorem Ka{κ κ':Int}{k:Nat}{xs ys buf:Bytes}{ts0 ts:List Tok}{ev:List Evt}{acc:List Thg}(pc:Pc κ xs κ' k ts)(h:b.drop k=xs++ys)(ha:told (i8 b) ts0=some acc)(R:Rel κ buf ev acc):
  ∃buf' ev' acc',readAll ⟨plc κ,buf,ev⟩ xs=some ⟨plc κ',buf',ev'⟩∧told (i8 b) (ts0++ts)=some acc'∧Rel κ' buf' ev' acc':=by
 cases pc with
 |@plain _ c _ hn h1 h2 h3 h4=>
  have hb:(if(6:Int)=7 then nW (sub (i8 b) k (k+1))else(sub (i8 b) k (k+1)).head?)=some ((c.toNat:Nat):Int):=by
   rw[if_neg (by decide),show k+1=k+[c].length from rfl,qC h];rfl
  obtain⟨acc',e1,R'⟩:=zr (z:=0) h1 R rfl hb;refine⟨buf++[c],ev,acc',?_,jj ha e1,R'⟩;rw[rd1 hn];rcases h1 with rfl|rfl|rfl<;>rfl
 |@ref _ n _ h1 hr h2 h3=>
  obtain⟨c,hc,hby⟩:=HW hr;have hb:(if(7:Int)=7 then nW (sub (i8 b) k (k+n.length+2))else(sub (i8 b) k (k+n.length+2)).head?)=some ((c.toNat:Nat):Int):=by
   have e:=qC h;rw[show k+(38::(n++[59])).length=k+n.length+2 by simp only[List.length_cons,List.length_append,List.length_nil];omega]at e
   rw[if_pos rfl,e,Sp.si,Sp.oF];exact hby
  obtain⟨acc',e1,R'⟩:=zr (z:=0) h1 R rfl hb;refine⟨buf++[c],ev,acc',?_,jj ha e1,R'⟩;have fin:buf++[c]=buf++(refOf n).toList:=by rw[hc];rfl
  rw[fin];rcases h1 with rfl|rfl|rfl
  ·refine rdT (q:=.textRef []) rfl rfl ?_;exact AB inText hr h2 h3 (λ_ _ _ _ _ _ h=>rd1 h) (λ_ _ _ _ _ h=>rd1 h)
  ·refine rdT (q:=.valueRef 34 []) rfl rfl ?_;exact AB (B7 34) hr h2 h3 (λ_ _ _ _ _ _ h=>rd1 h) (λ_ _ _ _ _ h=>rd1 h)
  ·refine rdT (q:=.valueRef 39 []) rfl rfl ?_;exact AB (B7 39) hr h2 h3 (λ_ _ _ _ _ _ h=>rd1 h) (λ_ _ _ _ _ h=>rd1 h)
 |@close n _ hn=>
  rcases R with⟨_,nt,e⟩|⟨k2,e⟩|⟨k4,_⟩
  ·have h2:b.drop (k+2)=n++([62]++ys):=by
    have:b.drop k=[60,47]++(n++([62]++ys)):=by rw[h];simp
    exact bz this
   refine⟨[],(ev++flush buf)++[.closing n],acc++[(5,i8 n)],?_,jj ha ?_,.inl ⟨rfl,u7 (by simp[Stencil.kindOf]),?_⟩⟩
   ·exact rdT (q:=.lt) rfl rfl (rdT (q:=.close []) rfl rfl (rdA (JQ hn) (rdT (q:=.text) (by have:=hn.ne;simp[next,this];decide) rfl rfl)))
   ·rw[vj rfl,qC h2]
   ·rw[e,show flush []=[]from rfl,List.append_nil,List.map_append (l₂:=[Stencil.Event.closing n])];rfl
  ·omega
  ·omega
 |@opn n _ hn=>
  rcases R with⟨_,nt,e⟩|⟨k2,e⟩|⟨k4,_⟩
  ·have h2:b.drop (k+1)=n++([62]++ys):=by
    have:b.drop k=[60]++(n++([62]++ys)):=by rw[h];simp
    exact bz this
   refine⟨[],(ev++flush buf)++[.opening n],acc++[(2,i8 n)],?_,jj ha ?_,.inl ⟨rfl,u7 (by simp[Stencil.kindOf]),?_⟩⟩
   ·exact rdT (q:=.lt) rfl rfl (rdA (GU hn) (rdT (q:=.text) rfl rfl rfl))
   ·rw[vj rfl,qC h2]
   ·rw[e,show flush []=[]from rfl,List.append_nil,List.map_append (l₂:=[Stencil.Event.opening n])];rfl
  ·omega
  ·omega
 |@F1 n c _ hn hc=>
  rcases R with⟨_,nt,e⟩|⟨k2,e⟩|⟨k4,_⟩
  ·have h2:b.drop (k+1)=n++([c]++ys):=by
    have:b.drop k=[60]++(n++([c]++ys)):=by rw[h];simp
    exact bz this
   refine⟨[],(ev++flush buf)++[.opening n],acc++[(2,i8 n)],?_,jj ha ?_,.inr (.inr ⟨.inl rfl,u7 (by simp[Stencil.kindOf]),rfl,?_⟩)⟩
   ·refine rdT (q:=.lt) rfl rfl (rdA (GU hn) ?_);have hn:nameByte c=false:=by
     cases e:nameByte c with
     |false=>rfl
     |true=>rw[(rV e).2.1]at hc;cases hc
    exact rdT (q:=.gap) (by show(if nameByte c=true then _ else if blank c=true then _ else _)=_;rw[hn,if_neg Bool.false_ne_true,if_pos hc]) rfl rfl
   ·rw[vj rfl,qC h2]
   ·rw[e,List.map_append (l₂:=[Stencil.Event.opening n])];rfl
  ·omega
  ·omega
 |quote hq=>
  rcases R with⟨k1,nt,e⟩|⟨k2,e⟩|⟨k4,_⟩
  ·omega
  ·refine⟨[],ev++[.val buf],acc,?_,by rw[List.append_nil];exact ha,.inr (.inr ⟨.inr rfl,u7 (by simp[Stencil.kindOf]),rfl,?_⟩)⟩
   ·rcases hq with⟨rfl,rfl⟩|⟨rfl,rfl⟩<;>exact rdT (q:=.tag) rfl rfl rfl
   ·rw[e,List.map_append];rfl
  ·omega
 |@attr n c _ _ hn hc=>
  rcases R with⟨k1,nt,e⟩|⟨k2,e⟩|⟨k4,nt,hb,e⟩
  ·omega
  ·omega
  ·have h2:b.drop k=n++([61,c]++ys):=by rw[h];simp
   refine⟨[],ev++[.attr n],(acc++[(3,i8 n)])++[(4,[])],?_,?_,.inr (.inl ⟨hc.imp And.left And.left,?_⟩)⟩
   ·refine rdA (HY hn) (rdT (q:=.eq) (by simp[next];decide) rfl ?_)
    rcases hc with⟨rfl,rfl⟩|⟨rfl,rfl⟩
    ·exact rdT (q:=.value 34) rfl rfl rfl
    ·exact rdT (q:=.value 39) rfl rfl rfl
   ·rw[show(ts0++[⟨3,4,k,k+n.length⟩,⟨4,κ',k+n.length+2,k+n.length+2⟩]:List Tok)=(ts0++[⟨3,4,k,k+n.length⟩])++[⟨4,κ',k+n.length+2,k+n.length+2⟩]by simp]
    refine jj (jj ha (by rw[vj rfl,qC h2])) ?_
    rw[vj rfl];unfold sub;rw[Nat.sub_self,List.take_zero]
   ·rw[e,List.map_append];rfl
 |@blk _ c _ hk hc=>
  rcases R with⟨k1,nt,e⟩|⟨k2,e⟩|⟨k4,nt,hb,e⟩
  ·omega
  ·omega
  ·refine⟨buf,ev,acc,?_,by rw[List.append_nil];exact ha,.inr (.inr ⟨.inl rfl,nt,hb,e⟩)⟩
   rcases hk with rfl|rfl
   ·exact rdT (q:=.gap) (by show(if blank c=true then _ else _)=_;rw[if_pos hc]) rfl rfl
   ·exact rdT (q:=.gap) (by show(if blank c=true then _ else _)=_;rw[if_pos hc]) rfl rfl
 |gt hk=>
  rcases R with⟨k1,nt,e⟩|⟨k2,e⟩|⟨k4,nt,hb,e⟩
  ·omega
  ·omega
  ·refine⟨buf,ev,acc,?_,by rw[List.append_nil];exact ha,.inl ⟨rfl,nt,?_⟩⟩
   ·rcases hk with rfl|rfl<;>exact rdT (q:=.text) rfl rfl rfl
   ·rw[hb,show flush []=[]from rfl,List.append_nil];exact e
theorem Cd:∀{f:Nat}{st:SS}{l buf:Bytes}{ev:List Evt}{acc:List Thg},(st.kind=1∨st.kind=2∨st.kind=3∨st.kind=4∨st.kind=5)→b.drop st.place=l→l.length<f→st.aV=[]→told (i8 b) st.toks=some acc→Rel st.kind buf ev acc→
  match(readAll ⟨plc st.kind,buf,ev⟩ l).bind Reader.told with
  |none=>∃k,cp (i8 b) false f st=.error k
  |some L=>∃ts,cp (i8 b) false f st=.ok ts∧told (i8 b) ts=some (L.map enc)
 |0,st,l,_,_,_,_,_,h,_,_,_=>absurd h (Nat.not_lt_zero _)
 |f+1,st,l,buf,ev,acc,hk,hl,hf,hs,ha,R=>by
  cases l with
  |nil=>
   have e:cp (i8 b) false (f+1) st=if st.kind≠1∨st.aV≠[]then .error st.place else .ok st.toks:=if_neg (qY hl)
   rw[e];show match(if plc st.kind=.text then some (ev++flush buf)else none)with|none=>_|some L=>_
   by_cases h1:st.kind=1
   ·rw[if_pos ((lA hk).mpr h1),if_neg (by rintro(z|z);exact z h1;exact z hs)]
    rcases R with⟨_,nt,e2⟩|⟨k2,_⟩|⟨k4,_⟩
    ·exact⟨_,rfl,by rw[ha,e2]⟩
    ·omega
    ·omega
   ·rw[if_neg (λz=>h1 ((lA hk).mp z)),if_pos (.inl h1)];exact⟨_,rfl⟩
  |cons c r=>
   have e:cp (i8 b) false (f+1) st=(iV (i8 b) false st).bind (cp (i8 b) false f):=if_pos (qX hl);rw[e];rcases qV (tm:=false) hk hl (.inl rfl)with⟨xs,ys,κ,ts,e1,pc,e2⟩|⟨xs,ys,q,e1,g,sp,e2⟩
   ·obtain⟨x1,x2⟩:=rJ pc;rw[e1]at hl;obtain⟨b',v',a',q1,q2,q3⟩:=Ka pc hl ha R;rw[e2,e1,yl,q1];exact Cd (st:={st with place:=st.place+xs.length,kind:=κ,toks:=st.toks++ts}) x2 (bz hl) (by rw[e1,List.length_append]at hf;omega) hs q2 q3
   ·obtain⟨b',v',q1⟩:=JP (buf:=buf) (ev:=ev) g;rw[e2,e1,yl,q1];show match(readAll ⟨q,b',v'⟩ ys).bind Reader.told with|none=>_|some L=>_
    rw[FG sp];exact⟨_,rfl⟩
end
end
section
open Stencil (Bytes next letter nameByte blank takes parts isName nameIn closes readFrom build Node)
open Sp (i8)
abbrev Frm:=Stencil.Frame
def nm(c:UInt8):Bool:=nameByte c||c==95
theorem Kc:nm 125=false:=by decide
theorem fJ(c:UInt8)(r:Bytes):isName (c::r)=(letter c&&(r.all nm&&decide (r.length≤31))):=rfl
theorem uy{n:Bytes}{c:UInt8}(h:isName n=true):isName (n++[c])=(nm c&&decide (n.length+1≤32)):=by
 cases n with
 |nil=>cases h
 |cons a r=>
  rw[fJ]at h;rw[List.cons_append,fJ,List.all_append,List.length_append];simp only[Bool.and_eq_true,decide_eq_true_eq]at h;rw[h.1,h.2.1];simp[List.all_cons]
theorem vT:∀{f:Nat}{n l:Bytes}{k:Nat},isName n=true→33≤f+n.length→n.length≤32→
  nameIn f n l k=match l.drop (((l.take (32-n.length)).takeWhile nm).length)with
   |c::ys=>if c=125 then .ok (n++(l.take (32-n.length)).takeWhile nm,ys,k+((l.take (32-n.length)).takeWhile nm).length+1)else .error (k+((l.take (32-n.length)).takeWhile nm).length)
   |[]=>.error (k+((l.take (32-n.length)).takeWhile nm).length)
 |0,n,l,k,hn,hf,hz=>by omega
 |f+1,n,[],k,hn,hf,hz=>by simp[nameIn]
 |f+1,n,c::r,k,hn,hf,hz=>by
  have hne:n≠[]:=by rintro rfl;cases hn
  have e:nameIn (f+1) n (c::r) k=if c=125∧n≠[]then .ok (n,r,k+1)else if isName (n++[c])=true then nameIn f (n++[c]) r (k+1)else .error k:=rfl
  rw[e]
  by_cases h125:c=125
  ·subst h125;rw[if_pos ⟨rfl,hne⟩];have:((125::r:Bytes).take (32-n.length)).takeWhile nm=[]:=by
    cases 32-n.length with
    |zero=>rfl
    |succ m=>rw[List.take_succ_cons,List.takeWhile_cons,Kc];rfl
   rw[this];simp
  ·rw[if_neg (λz=>h125 z.1),uy hn]
   by_cases hc:nm c=true
   ·by_cases hl:n.length+1≤32
    ·rw[hc,decide_eq_true hl,if_pos (by rfl)]
     have hn2:isName (n++[c])=true:=by rw[uy hn,hc,decide_eq_true hl];rfl
     rw[vT hn2 (by rw[List.length_append,List.length_cons,List.length_nil];omega) (by rw[List.length_append,List.length_cons,List.length_nil];omega)]
     have e1:32-n.length=(32-(n++[c]).length)+1:=by rw[List.length_append,List.length_cons,List.length_nil];omega
     rw[e1,List.take_succ_cons,List.takeWhile_cons,if_pos hc]
     generalize (r.take (32-(n++[c]).length)).takeWhile nm=u
     rw[List.length_cons,List.drop_succ_cons];cases r.drop u.length with
     |nil=>dsimp only;congr 1;omega
     |cons d ys=>
      dsimp only
      split
      ·rw[List.append_assoc,show k+1+u.length+1=k+(u.length+1)+1 by omega];rfl
      ·congr 1;omega
    ·rw[hc,decide_eq_false hl,if_neg (by decide)]
     rw[show 32-n.length=0 by omega]
     simp[h125]
   ·rw[Bool.not_eq_true]at hc;rw[hc,if_neg (by simp)]
    have:((c::r:Bytes).take (32-n.length)).takeWhile nm=[]:=by
     cases 32-n.length with
     |zero=>rfl
     |succ m=>rw[List.take_succ_cons,List.takeWhile_cons,hc];rfl
    rw[this];simp[h125]
section
variable {b l:Bytes}{st:SS}
theorem wH{α:Type}(p:α→Bool)(l:List α)(m:Nat):∃ys,l=(l.take m).takeWhile p++ys:=by
 obtain⟨t,ht⟩:=List.takeWhile_prefix (l:=l.take m) p;exact⟨t++l.drop m,by rw[←List.append_assoc,ht,List.take_append_drop]⟩
theorem xy(h:b.drop st.place=l):(∃n ys,l=n++125::ys∧isName n=true∧mNB (i8 b) st=.ok {st with place:=st.place+n.length+1}∧∀k,nameIn 40 [] l k=.ok (n,ys,k+n.length+1))∨
  ∃e,mNB (i8 b) st=.error (st.place+e)∧∀k,nameIn 40 [] l k=.error (k+e):=by
 unfold mNB;cases l with
 |nil=>
  right
  refine⟨0,?_,λk=>rfl⟩;unfold tk;rw[lj,h];rfl
 |cons c r=>
  have e0:∀k,nameIn 40 [] (c::r) k=if c=125∧([]:Bytes)≠[]then .ok ([],r,k+1)else if isName ([]++[c])=true then nameIn 39 ([]++[c]) r (k+1)else .error k:=λ_=>rfl
  have e1:∀k,nameIn 40 [] (c::r) k=if letter c=true then nameIn 39 [c] r (k+1)else .error k:=λk=>by
   rw[e0,if_neg (λz=>z.2 rfl)];show(if isName [c]=true then _ else _)=_
   rw[fJ];simp
  have ht:tk (cN (pk (i8 b) st.place)) st=if letter c=true then .ok {st with place:=st.place+1}else .error st.place:=by
   unfold tk;rw[lj,h];show(if cN ((c.toNat:Nat):Int)=true then _ else _)=_
   rw[hJ]
  rw[ht];cases hc:letter c with
  |false=>
   right
   refine⟨0,by rw[if_neg Bool.false_ne_true];rfl,λk=>by rw[e1,hc,if_neg Bool.false_ne_true];rfl⟩
  |true=>
   rw[if_pos rfl];have h1:b.drop (st.place+1)=r:=bz (xs:=[c]) h;have hn1:isName [c]=true:=by rw[fJ,hc];rfl
   have e2:∀k,nameIn 40 [] (c::r) k=nameIn 39 [c] r (k+1):=λk=>by rw[e1,hc,if_pos rfl]
   have e3:=λk=>(e2 k).trans (vT (f:=39) (l:=r) (k:=k+1) hn1 (by simp) (by simp))
   rw[show 32-([c]:Bytes).length=31 from rfl]at e3;show _∨_;have e4:((Except.ok {st with place:=st.place+1}:Except Nat SS).bind λs1=>tk (decide (pk (i8 b) (runN fNm (i8 b) s1.place 31)=125)) {s1 with place:=runN fNm (i8 b) s1.place 31})=tk (decide (pk (i8 b) (runN fNm (i8 b) (st.place+1) 31)=125)) {st with place:=runN fNm (i8 b) (st.place+1) 31}:=rfl
   rw[e4,Fz (p:=nm) EN,h1];obtain⟨ys0,hy0⟩:=wH nm r 31
   generalize hu:(r.take 31).takeWhile nm=u at e3 hy0
   have hall:u.all nm=true:=by rw[←hu];exact List.all_takeWhile
   have hlen:u.length≤31:=by
    rw[←hu];have:=(List.takeWhile_prefix (l:=r.take 31) nm).length_le;rw[List.length_take]at this;omega
   have h2:b.drop (st.place+1+u.length)=r.drop u.length:=by rw[←List.drop_drop,h1]
   have hdr:r.drop u.length=ys0:=by rw[hy0,List.drop_left]
   rcases Bw (st:={st with place:=st.place+1+u.length}) (z:=125) h2 with⟨ys,q1,q2⟩|⟨q1,q2⟩
   ·left
    refine⟨c::u,ys,?_,?_,q2.trans ?_,λk=>?_⟩
    ·rw[List.cons_append,←q1,hdr,←hy0]
    ·rw[fJ,hc,hall,decide_eq_true hlen];rfl
    ·show Except.ok {st with place:=st.place+1+u.length+1}=_
     rw[List.length_cons];congr 2;omega
    ·rw[e3,q1];dsimp only;rw[if_pos rfl,List.length_cons,show k+1+u.length+1=k+(u.length+1)+1 by omega];rfl
   ·right
    refine⟨1+u.length,q2.trans ?_,λk=>?_⟩
    ·show Except.error (st.place+1+u.length)=_;rw[Nat.add_assoc]
    ·rw[e3];cases hd:r.drop u.length with
     |nil=>dsimp only;rw[Nat.add_assoc]
     |cons d ys=>
      dsimp only;rw[if_neg (λz=>q1 ys (by rw[hd,z])),Nat.add_assoc]
end
def Dl(fs:List Frm):Prop:=∀x∈fs,parts x.place=true
theorem Bl{p:Plc}{fs:List Frm}(hf:Dl fs)(h:mid p=true):closes p fs=false:=by
 cases fs with
 |nil=>rfl
 |cons x r=>
  show decide (x.place=p)=false;refine decide_eq_false λz=>?_;have:=hf x List.mem_cons_self;rw[z]at this;unfold mid at h;rw[this]at h;cases h
theorem Ga{p:Plc}(h:mid p=true):next p 123=none∧takes p=false∧parts p=false:=by
 unfold mid at h;cases p with
 |text=>cases h
 |value q=>cases h
 |tag=>cases h
 |gap=>cases h
 |textRef s=>
  refine⟨?_,rfl,rfl⟩;have:Stencil.beginsRef (s++[123])=false:=by
   unfold Stencil.beginsRef;rw[List.any_eq_false];intro r hr;have h0:∀r∈Stencil.refs,(123:UInt8)∉r.1:=by decide
   rw[List.isPrefixOf_iff_prefix];rintro⟨t,ht⟩;exact h0 r hr (by rw[←ht];simp)
  simp[next,this]
 |valueRef q s=>
  refine⟨?_,rfl,rfl⟩;have:Stencil.beginsRef (s++[123])=false:=by
   unfold Stencil.beginsRef;rw[List.any_eq_false];intro r hr;have h0:∀r∈Stencil.refs,(123:UInt8)∉r.1:=by decide
   rw[List.isPrefixOf_iff_prefix];rintro⟨t,ht⟩;exact h0 r hr (by rw[←ht];simp)
  simp[next,this]
 |lt=>exact⟨by decide,rfl,rfl⟩
 |name s=>
  have h1:nameByte 123=false:=by decide
  have h2:blank 123=false:=by decide
  exact⟨by simp[next,h1,h2],rfl,rfl⟩
 |attr s=>
  have h1:nameByte 123=false:=by decide
  exact⟨by simp[next,h1],rfl,rfl⟩
 |eq=>exact⟨by decide,rfl,rfl⟩
 |close s=>
  have h1:nameByte 123=false:=by decide
  have h2:letter 123=false:=by decide
  exact⟨by simp[next,h1,h2],rfl,rfl⟩
theorem BK{f:Nat}{p:Plc}{cur:List Node}{fs:List Frm}{c:UInt8}{r:Bytes}{k:Nat}(hf:Dl fs)(hc:mid p=true∨c≠123):readFrom (f+1) p cur fs (c::r) k=match next p c with|some q=>readFrom f q (.lit c::cur) fs r (k+1)|none=>.error k:=by
 by_cases h:c=123
 ·subst h;have hm:=hc.resolve_right λz=>z rfl;obtain⟨n1,n2,n3⟩:=Ga hm;unfold readFrom;dsimp only;rw[n1,n2,n3,Bl hf hm];simp
 ·conv=>lhs;unfold readFrom
  split
  ·rename_i h0;cases h0
  ·rename_i h0;injection h0 with h0;exact absurd h0 h
  ·rename_i h0 h1;cases h1;rfl
theorem GR{xs ys:Bytes}{fs:List Frm}(hf:Dl fs):∀{f:Nat}{p q:Plc}{cur:List Node}{k:Nat},go true p xs=some q→readFrom (xs.length+f) p cur fs (xs++ys) k=readFrom f q ((xs.map Node.lit).reverse++cur) fs ys (k+xs.length):=by
 induction xs with
 |nil=>intro f p q cur k h;injection h with h;subst h;simp
 |cons c r ih=>
  intro f p q cur k h;have h:(if(true&&(!mid p&&c==123))=true then none else(next p c).bind λm=>go true m r)=some q:=h
  by_cases hc:(true&&(!mid p&&c==123))=true
  ·rw[if_pos hc]at h;cases h
  ·rw[if_neg hc]at h;obtain⟨m,h1,h2⟩:=Option.bind_eq_some_iff.mp h;have hc2:mid p=true∨c≠123:=by
    cases e:mid p with
    |true=>exact .inl rfl
    |false=>exact .inr λz=>hc (by rw[e,z];rfl)
   rw[List.cons_append,List.length_cons,show r.length+1+f=(r.length+f)+1 by omega,BK hf hc2,h1]
   show readFrom (r.length+f) m (.lit c::cur) fs (r++ys) (k+1)=_;rw[ih h2,List.map_cons,List.reverse_cons,List.append_assoc,show k+1+r.length=k+(r.length+1)by omega];rfl
theorem FE{q:Plc}{ys:Bytes}{f k:Nat}{cur:List Node}{fs:List Frm}(hf:Dl fs)(h:Stop true q ys):readFrom (f+1) q cur fs ys k=.error k:=by
 rcases h with⟨rfl,h⟩|⟨c,r,rfl,h,hc⟩
 ·show(if q=.text∧fs.isEmpty=true then _ else _)=_
  rw[if_neg λz=>h z.1]
 ·rw[BK hf (hc.resolve_left λz=>(by cases z)),h]
end
section
open Stencil (Bytes next letter nameByte blank takes parts isName nameIn closes readFrom build Node)
open Sp (i8)
abbrev Bu(κ:Int):Prop:=κ=1∨κ=2∨κ=3∨κ=4∨κ=5
theorem FP{a c:Int}(ha:Bu a)(hc:Bu c)(h:plc a=plc c):a=c:=by
 rcases ha with rfl|rfl|rfl|rfl|rfl<;>rcases hc with rfl|rfl|rfl|rfl|rfl<;>first|rfl|(revert h;decide)
theorem xo{a:Int}(ha:Bu a):parts (plc a)=true:=by rcases ha with rfl|rfl|rfl|rfl|rfl<;>rfl
def TR(ns:List Node):Stencil.Tree:=build ns.reverse
def eF:Stencil.Kind→Int
 |.each=>3
 |.holds=>4
 |.fails=>5
inductive gA:Nat→Nat→List Pce→Plc→List Node→Plc→Prop
 |nil {m off:Nat} {p:Plc}:gA m off [] p [] p
 |run {m off:Nat} {l:List Pce} {p q q':Plc} {ns:List Node} {bs:Bytes} (h:gA m off l p ns q) (g:go false q bs=some q') (z:bs.length≤5000):gA m off (l++[⟨1,none,i8 bs,none⟩]) p (ns++bs.map .lit) q'
 |hole {m off:Nat} {l:List Pce} {p:Plc} {ns:List Node} {κ:Int} {n:Bytes} (h:gA m off l p ns (plc κ)) (hk:κ=1∨κ=2∨κ=3) (z:n.length≤5000):gA m off (l++[⟨2,some κ,i8 n,none⟩]) p (ns++[.hole n]) (plc κ)
 |sec {m off:Nat} {l l':List Pce} {p q:Plc} {ns body:List Node} {k1 k2:Option Int} {y:Stencil.Kind} {n:Bytes} (h:gA (m+1) off l p ns q) (h':gA m (off+l.length+1) l' q body q) (z:n.length≤5000):
   gA (m+1) off (l++(⟨eF y,k1,i8 n,some (off+l.length+1+l'.length)⟩::(l'++[⟨6,k2,[],some (off+l.length)⟩]))) p (ns++[.sec y n (TR body)]) q
inductive Frs:List Pce→List Frm→List Nat→Plc→Prop
 |nil:Frs [] [] [] .text
 |cons {A l:List Pce} {fs:List Frm} {bg:List Nat} {p1:Plc} {bf:List Node} {κ:Int} {y:Stencil.Kind} {n:Bytes} (h:Frs A fs bg p1) (hc:gA (16-fs.length) A.length l p1 bf.reverse (plc κ)) (hk:Bu κ) (z:n.length≤5000):
   Frs (A++(l++[⟨eF y,some κ,i8 n,none⟩])) (⟨y,n,plc κ,bf⟩::fs) (bg++[A.length+l.length]) (plc κ)
theorem Frs.ok{A:List Pce}{fs:List Frm}{bg:List Nat}{p:Plc}(h:Frs A fs bg p):Dl fs:=by
 induction h with
 |nil=>exactλx hx=>nomatch hx
 |cons _ _ hk _ ih=>
  intro x hx;rcases List.mem_cons.mp hx with rfl|hx
  ·exact xo hk
  ·exact ih x hx
structure iY(b:Bytes)(st:SS)(cur:List Node)(fs:List Frm)(s:RS):Prop where
 kind:Bu st.kind
 fold:iz (i8 b) st.toks=some s
 to:s.to≤st.place
 le:st.place≤b.length
 aV:st.aV.map plc=fs.reverse.map (·.place)
 CH:∀κ∈st.aV,Bu κ
 few:fs.length≤16
 code:∃A lc p0 ns q0,s.ps=A++lc∧Frs A fs s.bg p0∧gA (16-fs.length) A.length lc p0 ns q0∧cur.reverse=ns++((b.drop s.to).take (st.place-s.to)).map .lit∧go false q0 ((b.drop s.to).take (st.place-s.to))=some (plc st.kind)
section
variable {b:Bytes}{st:SS}{cur:List Node}{fs:List Frm}{s:RS}
theorem iY.fok(I:iY b st cur fs s):Dl fs:=by obtain⟨A,lc,p0,ns,q0,_,F,_⟩:=I.code;exact F.ok
theorem iY.len(I:iY b st cur fs s):st.aV.length=fs.length:=by
 have:=congrArg List.length I.aV
 rwa[List.length_map,List.length_map,List.length_reverse]at this
theorem iY.may(I:iY b st cur fs s):yF st=closes (plc st.kind) fs:=by
 unfold yF;cases fs with
 |nil=>
  have:st.aV=[]:=List.length_eq_zero_iff.mp I.len;rw[this];rfl
 |cons x r=>
  have e:=I.aV;rw[List.reverse_cons,List.map_append]at e;have hne:st.aV≠[]:=λz=>by rw[z]at e;simp at e
  obtain⟨κ,hκ⟩:∃κ,st.aV.getLast?=some κ:=by
   cases h:st.aV.getLast? with
   |none=>exact absurd (List.getLast?_eq_none_iff.mp h) hne
   |some κ=>exact⟨κ,rfl⟩
  have e2:=congrArg List.getLast? e;rw[List.getLast?_map,hκ,List.getLast?_append]at e2;have e2:plc κ=x.place:=by simpa using e2
  rw[decide_eq_false hne,hκ];show decide (some κ=some st.kind)=decide (x.place=plc st.kind);rw[Bool.eq_iff_iff,decide_eq_true_eq,decide_eq_true_eq,←e2];exact⟨λh=>by injection h with h;rw[h],λh=>by rw[FP (I.CH κ (List.mem_of_getLast? hκ)) I.kind h]⟩
theorem jK{A lc:List Pce}{m:Nat}{p0 q0 q:Plc}{ns:List Node}{e:Nat}{ps:List Pce}{t0:Nat}(hz:b.length≤5000)(h:gA m A.length lc p0 ns q0)(hp:ps=A++lc)(hto:t0≤e)(he:e≤b.length)(g:go false q0 ((b.drop t0).take (e-t0))=some q):
  ∃lc',gz (i8 b) t0 e ps=A++lc'∧gA m A.length lc' p0 (ns++((b.drop t0).take (e-t0)).map .lit) q:=by
 unfold gz
 by_cases h1:t0<e
 ·rw[if_pos h1];refine⟨lc++[⟨1,none,i8 ((b.drop t0).take (e-t0)),none⟩],?_,.run h g ?_⟩
  ·rw[hp,List.append_assoc]
   congr 3
   unfold sub;rw[sh];unfold i8;rw[List.map_take]
  ·rw[List.length_take,List.length_drop];omega
 ·rw[if_neg h1];rw[show e-t0=0 by omega,List.take_zero]at g⊢
  injection g with g
  subst g;exact⟨lc,hp,by rw[List.map_nil,List.append_nil];exact h⟩
theorem FZ{κ κ':Int}{xs:Bytes}{k:Nat}{ts:List Tok}(h:Pc κ xs κ' k ts):∀t∈ts,[8,9,10,11].contains t.aZ=false:=by
 cases h<;>intro t ht<;>simp only[List.mem_cons,List.not_mem_nil,or_false]at ht
 all_goals first|(subst ht;rfl)|(rcases ht with rfl|rfl<;>rfl)|exact ht.elim
theorem AF{r:List Int}{ts:List Tok}(h:∀t∈ts,[8,9,10,11].contains t.aZ=false):∀{t0:List Tok}{s:RS},iz r t0=some s→iz r (t0++ts)=some s:=by
 induction ts with
 |nil=>intro t0 s e;rw[List.append_nil];exact e
 |cons t ts ih=>
  intro t0 s e;rw[List.append_cons];refine ih (λt' ht'=>h t' (List.mem_cons_of_mem _ ht')) ?_;rw[mf,e];show mN r s t=some s;unfold mN;rw[h t List.mem_cons_self,if_neg Bool.false_ne_true]
theorem EI{xs:Bytes}:∀{p q:Plc},go true p xs=some q→go false p xs=some q:=by
 induction xs with
 |nil=>intro p q h;exact h
 |cons c r ih=>
  intro p q h;have h:(if(true&&(!mid p&&c==123))=true then none else(next p c).bind λm=>go true m r)=some q:=h
  by_cases hc:(true&&(!mid p&&c==123))=true
  ·rw[if_pos hc]at h;cases h
  ·rw[if_neg hc]at h;obtain⟨m,h1,h2⟩:=Option.bind_eq_some_iff.mp h;show(next p c).bind (λm=>go false m r)=some q
   rw[h1];exact ih h2
theorem sX{t0 k:Nat}{xs ys:Bytes}(h:b.drop k=xs++ys)(ht:t0≤k):(b.drop t0).take (k+xs.length-t0)=(b.drop t0).take (k-t0)++xs:=by
 have e:b.drop t0=(b.drop t0).take (k-t0)++(xs++ys):=by
  rw[←h];have:=(List.take_append_drop (k-t0) (b.drop t0)).symm
  rwa[List.drop_drop,show t0+(k-t0)=k by omega]at this
 have hk:k≤b.length∨xs=[]:=by
  rcases Nat.lt_or_ge b.length k with z|z
  ·rw[List.drop_eq_nil_of_le (by omega)]at h
   have:=congrArg List.length h;rw[List.length_append]at this;rw[List.length_nil]at this
   right;exact List.length_eq_zero_iff.mp (by omega)
  ·exact .inl z
 rcases hk with hk|hk
 ·have hl:((b.drop t0).take (k-t0)).length=k-t0:=by rw[List.length_take,List.length_drop];omega
  conv=>lhs;rw[e]
  rw[←List.append_assoc,List.take_append_of_le_length (by rw[List.length_append,hl];omega)]
  rw[List.take_of_length_le (by rw[List.length_append,hl];omega)]
 ·subst hk;simp
theorem iY.uf(I:iY b st cur fs s){xs ys:Bytes}{κ:Int}{ts:List Tok}(h:b.drop st.place=xs++ys)(pc:Pc st.kind xs κ st.place ts)(g:go true (plc st.kind) xs=some (plc κ)):
  iY b {st with place:=st.place+xs.length,kind:=κ,toks:=st.toks++ts} ((xs.map Node.lit).reverse++cur) fs s:=by
 obtain⟨A,lc,p0,ns,q0,h1,h2,h3,h4,h5⟩:=I.code;have hx:st.place+xs.length≤b.length:=by
  have:=congrArg List.length h;rw[List.length_drop,List.length_append]at this;have:=I.le;omega
 refine⟨(rJ pc).2,AF (FZ pc) I.fold,Nat.le_trans I.to (Nat.le_add_right _ _),hx,I.aV,I.CH,I.few,A,lc,p0,ns,q0,h1,h2,h3,?_,?_⟩
 ·show((xs.map Node.lit).reverse++cur).reverse=_;rw[sX h I.to,List.reverse_append,List.reverse_reverse,h4,List.append_assoc,List.map_append]
 ·show go false q0 ((b.drop s.to).take (st.place+xs.length-s.to))=_;rw[sX h I.to];exact gq h5 (EI g)
theorem BN{r:List Int}{s:RS}{t:Tok}(h:[8,9,10,11].contains t.aZ=true)(hp:AH r t (gz r s.to (if t.aZ=8 then t.beg+1 else t.beg) s.ps) s.bg):
  mN r s t=some ⟨(fT r t (gz r s.to (if t.aZ=8 then t.beg+1 else t.beg) s.ps) s.bg).1,(fT r t (gz r s.to (if t.aZ=8 then t.beg+1 else t.beg) s.ps) s.bg).2,t.fin⟩:=by
 unfold mN;rw[if_pos h,if_pos hp]
theorem vc{r:List Int}{t0:List Tok}{s s':RS}{t:Tok}(h:iz r t0=some s)(h2:mN r s t=some s'):iz r (t0++[t])=some s':=by rw[mf,h];exact h2
theorem fh{k:Nat}:(b.drop k).take (k-k)=[]:=by rw[Nat.sub_self,List.take_zero]
theorem iY.two(I:iY b st cur fs s)(hz:b.length≤5000){ys:Bytes}(h:b.drop st.place=123::123::ys)(hk:st.kind=1∨st.kind=2∨st.kind=3):
  iY b ⟨st.place+2,st.kind,st.aV,st.toks++[⟨8,st.kind,st.place,st.place+2⟩]⟩ (.lit 123::cur) fs ⟨gz (i8 b) s.to (st.place+1) s.ps,s.bg,st.place+2⟩:=by
 obtain⟨A,lc,p0,ns,q0,h1,h2,h3,h4,h5⟩:=I.code;have hx:st.place+2≤b.length:=by
  have:=congrArg List.length h;rw[List.length_drop,List.length_cons,List.length_cons]at this;have:=I.le;omega
 have g2:go false (plc st.kind) [123]=some (plc st.kind):=by rcases hk with z|z|z<;>(rw[z];rfl)
 have e1:(b.drop s.to).take (st.place+1-s.to)=(b.drop s.to).take (st.place-s.to)++[123]:=sX (xs:=[123]) (ys:=123::ys) h I.to;obtain⟨lc',f1,f2⟩:=jK (e:=st.place+1) (t0:=s.to) (ps:=s.ps) (q:=plc st.kind) hz h3 h1 (Nat.le_succ_of_le I.to) (by omega) (by
  rw[e1];exact gq h5 g2)
 refine⟨I.kind,vc I.fold ?_,Nat.le_refl _,hx,I.aV,I.CH,I.few,A,lc',p0,_,plc st.kind,f1,h2,f2,?_,?_⟩
 ·rw[BN rfl ⟨(λ(z:(8:Int)=9)=>absurd z (by decide)),(λ(z:(8:Int)=10)=>absurd z (by decide)),λ(z:(8:Int)=11)=>absurd z (by decide)⟩]
  rfl
 ·show(Node.lit 123::cur).reverse=_;rw[fh,List.reverse_cons,h4,e1,List.map_append];simp
 ·show go false _ ((b.drop (st.place+2)).take (st.place+2-(st.place+2)))=_;rw[fh];rfl
theorem DC{k i:Nat}{xs n ys:Bytes}(h:b.drop k=xs++(n++ys))(hi:xs.length=i):sub (i8 b) (k+i) (k+i+n.length)=i8 n:=by
 subst hi;exact qC (bz h)
theorem v8{n:Bytes}(h:isName n=true):n.length≤32:=by
 cases n with
 |nil=>cases h
 |cons c r=>rw[fJ]at h;simp only[Bool.and_eq_true,decide_eq_true_eq]at h;rw[List.length_cons];omega
theorem iY.fill(I:iY b st cur fs s)(hz:b.length≤5000){n ys:Bytes}(h:b.drop st.place=123::(n++125::ys))(hn:isName n=true)(hk:st.kind=1∨st.kind=2∨st.kind=3):
  iY b ⟨st.place+1+n.length+1,st.kind,st.aV,st.toks++[⟨9,st.kind,st.place,st.place+1+n.length+1⟩]⟩ (.hole n::cur) fs ⟨gz (i8 b) s.to st.place s.ps++[⟨2,some st.kind,i8 n,none⟩],s.bg,st.place+1+n.length+1⟩:=by
 obtain⟨A,lc,p0,ns,q0,h1,h2,h3,h4,h5⟩:=I.code;have hx:st.place+1+n.length+1≤b.length:=by
  have:=congrArg List.length h;rw[List.length_drop,List.length_cons,List.length_append,List.length_cons]at this;have:=I.le;omega
 obtain⟨lc',f1,f2⟩:=jK (e:=st.place) (t0:=s.to) (ps:=s.ps) hz h3 h1 I.to I.le h5;have hsub:sub (i8 b) (st.place+1) (st.place+1+n.length+1-1)=i8 n:=by
  rw[Nat.add_sub_cancel];exact DC (xs:=[123]) (n:=n) (ys:=125::ys) h rfl
 refine⟨I.kind,vc I.fold ?_,Nat.le_refl _,hx,I.aV,I.CH,I.few,A,lc'++[⟨2,some st.kind,i8 n,none⟩],p0,_,plc st.kind,?_,h2,.hole f2 hk (Nat.le_trans (v8 hn) (by decide)),?_,?_⟩
 ·rw[BN rfl ⟨(λz=>by show 1≤st.place+1+n.length+1;omega),(λ(z:(9:Int)=10)=>absurd z (by decide)),λ(z:(9:Int)=11)=>absurd z (by decide)⟩]
  show some (RS.mk (gz (i8 b) s.to st.place s.ps++[⟨2,some st.kind,sub (i8 b) (st.place+1) (st.place+1+n.length+1-1),none⟩]) s.bg _)=_;rw[hsub]
 ·rw[f1,List.append_assoc]
 ·show(Node.hole n::cur).reverse=_;rw[fh,List.reverse_cons,h4];simp
 ·show go false _ ((b.drop (st.place+1+n.length+1)).take (st.place+1+n.length+1-(st.place+1+n.length+1)))=_;rw[fh];rfl
theorem iY.beg(I:iY b st cur fs s)(hz:b.length≤5000){c:UInt8}{y:Stencil.Kind}{n ys:Bytes}(h:b.drop st.place=123::c::(n++125::ys))(hn:isName n=true)(hy:Stencil.kindIn c=some y)(hf:fs.length<16):
  iY b ⟨st.place+2+n.length+1,st.kind,st.aV++[st.kind],st.toks++[⟨10,st.kind,st.place,st.place+2+n.length+1⟩]⟩ [] (⟨y,n,plc st.kind,cur⟩::fs)
   ⟨gz (i8 b) s.to st.place s.ps++[⟨eF y,some st.kind,i8 n,none⟩],s.bg++[(gz (i8 b) s.to st.place s.ps).length],st.place+2+n.length+1⟩:=by
 obtain⟨A,lc,p0,ns,q0,h1,h2,h3,h4,h5⟩:=I.code;have hx:st.place+2+n.length+1≤b.length:=by
  have:=congrArg List.length h;rw[List.length_drop,List.length_cons,List.length_cons,List.length_append,List.length_cons]at this;have:=I.le;omega
 obtain⟨lc',f1,f2⟩:=jK (e:=st.place) (t0:=s.to) (ps:=s.ps) hz h3 h1 I.to I.le h5;have hsub:sub (i8 b) (st.place+2) (st.place+2+n.length+1-1)=i8 n:=by
  rw[Nat.add_sub_cancel];exact DC (xs:=[123,c]) (n:=n) (ys:=125::ys) h rfl
 have hpk:pk (i8 b) (st.place+1)=((c.toNat:Nat):Int):=by
  have e:b.drop (st.place+1)=c::(n++125::ys):=bz (xs:=[123]) h;rw[lj,e];rfl
 have hw:Ay ((c.toNat:Nat):Int)=eF y:=by
  unfold Stencil.kindIn at hy
  by_cases e1:c=42
  ·subst e1;injection hy with hy;subst hy;rfl
  ·rw[if_neg e1]at hy
   by_cases e2:c=63
   ·subst e2;injection hy with hy;subst hy;rfl
   ·rw[if_neg e2]at hy
    by_cases e3:c=33
    ·subst e3;injection hy with hy;subst hy;rfl
    ·rw[if_neg e3]at hy;cases hy
 have F:Frs (A++(lc'++[⟨eF y,some st.kind,i8 n,none⟩])) (⟨y,n,plc st.kind,cur⟩::fs) (s.bg++[A.length+lc'.length]) (plc st.kind):=.cons h2 (by rw[h4];exact f2) I.kind (Nat.le_trans (v8 hn) (by decide))
 refine⟨I.kind,vc I.fold ?_,Nat.le_refl _,hx,?_,?_,hf,A++(lc'++[⟨eF y,some st.kind,i8 n,none⟩]),[],plc st.kind,[],plc st.kind,?_,?_,.nil,?_,?_⟩
 ·rw[BN rfl ⟨(λ(z:(10:Int)=9)=>absurd z (by decide)),(λz=>⟨by show st.place+1<_;rw[Sp.aQ];omega,by show 1≤st.place+2+n.length+1;omega⟩),λ(z:(10:Int)=11)=>absurd z (by decide)⟩]
  show some (RS.mk (gz (i8 b) s.to st.place s.ps++[⟨Ay (pk (i8 b) (st.place+1)),some st.kind,sub (i8 b) (st.place+2) (st.place+2+n.length+1-1),none⟩]) (s.bg++[(gz (i8 b) s.to st.place s.ps).length]) _)=_;rw[hsub,hpk,hw]
 ·show(st.aV++[st.kind]).map plc=_;rw[List.map_append,I.aV,List.reverse_cons,List.map_append];rfl
 ·intro κ hκ;rcases List.mem_append.mp hκ with z|z
  ·exact I.CH κ z
  ·rw[List.mem_singleton.mp z];exact I.kind
 ·rw[f1,List.append_assoc,List.append_nil]
 ·show Frs _ _ (s.bg++[(gz (i8 b) s.to st.place s.ps).length]) _;rw[f1,List.length_append];exact F
 ·show[]=[]++((b.drop (st.place+2+n.length+1)).take (st.place+2+n.length+1-(st.place+2+n.length+1))).map Node.lit;rw[fh];rfl
 ·show go false _ ((b.drop (st.place+2+n.length+1)).take (st.place+2+n.length+1-(st.place+2+n.length+1)))=_;rw[fh];rfl
theorem Fx(X Y:List Pce)(p:Pce)(n:Nat):Ax (X++p::Y) X.length n=X++{p with cy:=some n}::Y:=by
 unfold Ax;rw[List.getElem?_append_right (Nat.le_refl _),Nat.sub_self];show(X++p::Y).set X.length _=_;rw[List.set_append_right _ _ (Nat.le_refl _),Nat.sub_self];rfl
theorem iY.fin{x:Frm}(I:iY b st cur (x::fs) s)(hz:b.length≤5000){ys:Bytes}(h:b.drop st.place=123::47::125::ys)(hx:x.place=plc st.kind):
  ∃s',iY b ⟨st.place+3,st.kind,st.aV.dropLast,st.toks++[⟨11,st.kind,st.place,st.place+3⟩]⟩ (.sec x.kind x.name (build cur)::x.before) fs s':=by
 obtain⟨A,lc,p0,ns,q0,h1,h2,h3,h4,h5⟩:=I.code;have hx3:st.place+3≤b.length:=by
  have:=congrArg List.length h;rw[List.length_drop,List.length_cons,List.length_cons,List.length_cons]at this;have:=I.le;omega
 obtain⟨lc',f1,f2⟩:=jK (e:=st.place) (t0:=s.to) (ps:=s.ps) hz h3 h1 I.to I.le h5;have hfew:=I.few;rw[←h4]at f2;have hfold:=I.fold;have hsecs:=I.aV
 generalize hbg:s.bg=bg at h2
 cases h2 with
 |@cons A' l _ bg' p1 bf κ y n F hc hk z=>
  have hm:16-fs.length=(16-(fs.length+1))+1:=by rw[List.length_cons]at hfew;omega
  have hpl:(bg'++[A'.length+l.length]).getLast?=some (A'.length+l.length):=by rw[List.getLast?_append];rfl
  have hpsl:A'.length+l.length<(gz (i8 b) s.to st.place s.ps).length:=by rw[f1];simp only[List.length_append,List.length_cons,List.length_nil];omega
  refine⟨_,I.kind,vc hfold (BN rfl ⟨(λ(z:(11:Int)=9)=>absurd z (by decide)),(λ(z:(11:Int)=10)=>absurd z (by decide)),λz=>⟨_,hbg▸hpl,hpsl⟩⟩),Nat.le_refl _,hx3,?_,λκ hκ=>I.CH κ ((List.dropLast_subset _) hκ),by rw[List.length_cons]at hfew;omega,A',l++(⟨eF y,some κ,i8 n,some (A'.length+l.length+1+lc'.length)⟩::(lc'++[⟨6,some st.kind,[],some (A'.length+l.length)⟩])),p1,bf.reverse++[.sec y n (TR cur.reverse)],plc κ,?_,?_,?_,?_,?_⟩
  ·show st.aV.dropLast.map plc=_;rw[List.map_dropLast,hsecs,List.reverse_cons,List.map_append];exact List.dropLast_concat
  ·show(fE (i8 b) ⟨11,st.kind,st.place,st.place+3⟩ (gz (i8 b) s.to st.place s.ps) s.bg).1=_;unfold fE;rw[hbg,hpl,f1];dsimp only;have e1:A'++(l++[⟨eF y,some κ,i8 n,none⟩])++lc'=(A'++l)++⟨eF y,some κ,i8 n,none⟩::lc':=by simp
   have e3:((A'++l)++(⟨eF y,some κ,i8 n,none⟩:Pce)::lc').length=A'.length+l.length+1+lc'.length:=by simp only[List.length_append,List.length_cons];omega
   have e2:=Fx (A'++l) lc' ⟨eF y,some κ,i8 n,none⟩ (A'.length+l.length+1+lc'.length);rw[List.length_append]at e2;rw[e1,e3,e2];simp only[List.append_assoc,List.cons_append]
  ·show Frs A' fs (fE (i8 b) ⟨11,st.kind,st.place,st.place+3⟩ (gz (i8 b) s.to st.place s.ps) s.bg).2 p1;unfold fE;rw[hbg,hpl];dsimp only;rw[List.dropLast_concat];exact F
  ·rw[hm]at hc⊢;refine .sec hc ?_ z;have hx:plc κ=plc st.kind:=hx;rw[←hx]at f2;have e:A'.length+l.length+1=(A'++(l++[(⟨eF y,some κ,i8 n,none⟩:Pce)])).length:=by simp only[List.length_append,List.length_cons,List.length_nil];omega
   rw[e];exact f2
  ·show(Node.sec y n (build cur)::bf).reverse=_++((b.drop (st.place+3)).take (st.place+3-(st.place+3))).map Node.lit;rw[fh,List.reverse_cons];unfold TR;rw[List.reverse_reverse];simp
  ·show go false _ ((b.drop (st.place+3)).take (st.place+3-(st.place+3)))=_;rw[fh];exact congrArg some hx
end
end
section
open Stencil (Bytes next letter nameByte blank takes parts isName nameIn closes readFrom build Node kindIn)
open Sp (i8)
section
variable {f k:Nat}{p:Plc}{cur:List Node}{fs:List Frm}
def NoB(p:Plc)(fs:List Frm):Prop:=(next p 123).isNone=true∧takes p=false∧(parts p&&decide (fs.length<16))=false∧closes p fs=false
theorem FC{r:Bytes}(h:NoB p fs):readFrom (f+1) p cur fs (123::r) k=.error k:=by
 conv=>lhs;unfold readFrom
 dsimp only;exact if_pos h
theorem FA(h:¬NoB p fs):readFrom (f+1) p cur fs [123] k=.error (k+1):=by
 conv=>lhs;unfold readFrom
 dsimp only;exact if_neg h
theorem BJ{s:Bytes}(h:¬NoB p fs):readFrom (f+1) p cur fs (123::123::s) k=match next p 123 with|some q=>readFrom f q (.lit 123::cur) fs s (k+2)|none=>.error (k+1):=by
 refine(if_neg h).trans ?_;exact if_pos rfl
theorem CL{s:Bytes}(h:¬NoB p fs)(hc:closes p fs=false):readFrom (f+1) p cur fs (123::47::s) k=.error (k+1):=by
 refine(if_neg h).trans ?_;refine(if_neg (show¬(47:UInt8)=123 by decide)).trans ?_
 refine(if_pos (show(47:UInt8)=47 by rfl)).trans ?_
 exact if_pos hc
theorem FD{u:Bytes}{x:Frm}(h:¬NoB p (x::fs))(hc:closes p (x::fs)=true):readFrom (f+1) p cur (x::fs) (123::47::125::u) k=readFrom f p (.sec x.kind x.name (build cur)::x.before) fs u (k+3):=by
 refine(if_neg h).trans ?_;refine(if_neg (show¬(47:UInt8)=123 by decide)).trans ?_
 refine(if_pos (show(47:UInt8)=47 by rfl)).trans ?_
 exact if_neg (by rw[hc];decide)
theorem DS{s:Bytes}(h:¬NoB p fs)(hc:closes p fs=true)(hs:∀u,s≠125::u):readFrom (f+1) p cur fs (123::47::s) k=.error (k+2):=by
 refine(if_neg h).trans ?_;refine(if_neg (show¬(47:UInt8)=123 by decide)).trans ?_
 refine(if_pos (show(47:UInt8)=47 by rfl)).trans ?_
 refine(if_neg (show¬closes p fs=false by rw[hc];decide)).trans ?_
 split
 ·exact absurd rfl (hs _)
 ·rfl
theorem DQ{c:UInt8}{s:Bytes}{y:Stencil.Kind}(h:¬NoB p fs)(hc:c≠123)(hc':c≠47)(hy:kindIn c=some y):readFrom (f+1) p cur fs (123::c::s) k=if(parts p&&decide (fs.length<16))=false then .error (k+1)else(match nameIn 40 [] s (k+2)with|.error e=>.error e|.ok (n,u,e)=>readFrom f p [] (⟨y,n,p,cur⟩::fs) u e):=by
 refine(if_neg h).trans ?_;refine(if_neg hc).trans ?_;refine(if_neg hc').trans ?_;rw[hy];rfl
theorem DR{c:UInt8}{s:Bytes}(h:¬NoB p fs)(hc:c≠123)(hc':c≠47)(hy:kindIn c=none):readFrom (f+1) p cur fs (123::c::s) k=if takes p=false then .error (k+1)else(match nameIn 40 [] (c::s) (k+1)with|.error e=>.error e|.ok (n,u,e)=>readFrom f p (.hole n::cur) fs u e):=by
 refine(if_neg h).trans ?_;refine(if_neg hc).trans ?_;refine(if_neg hc').trans ?_;rw[hy];rfl
end
section
variable {b:Bytes}{st:SS}{cur:List Node}{fs:List Frm}{s:RS}
theorem yL{κ:Int}(h:Bu κ):(jM κ=true∧next (plc κ) 123=none∧takes (plc κ)=false)∨(jM κ=false∧next (plc κ) 123=some (plc κ)∧takes (plc κ)=true∧(κ=1∨κ=2∨κ=3)):=by
 rcases h with rfl|rfl|rfl|rfl|rfl
 ·exact .inr ⟨rfl,rfl,rfl,.inl rfl⟩
 ·exact .inr ⟨rfl,rfl,rfl,.inr (.inl rfl)⟩
 ·exact .inr ⟨rfl,rfl,rfl,.inr (.inr rfl)⟩
 ·exact .inl ⟨rfl,rfl,rfl⟩
 ·exact .inl ⟨rfl,rfl,rfl⟩
inductive Br(b:Bytes)(st:SS)(cur:List Node)(fs:List Frm)(l:Bytes)(f:Nat)(res:Except Nat SS):Prop
 |err (e:Nat) (h1:res=.error e) (h2:readFrom (f+1) (plc st.kind) cur fs l st.place=.error e)
 |ok (st':SS) (cur':List Node) (fs':List Frm) (s':RS) (h1:res=.ok st') (I:iY b st' cur' fs' s') (lt:st.place<st'.place) (h2:readFrom (f+1) (plc st.kind) cur fs l st.place=readFrom f (plc st'.kind) cur' fs' (b.drop st'.place) st'.place)
theorem pkn{k:Nat}{l:Bytes}(h:b.drop k=l)(z:UInt8):pk (i8 b) k=((z.toNat:Nat):Int)↔∃r,l=z::r:=by rw[lj,h];exact z4
theorem Jf(hz:b.length≤5000)(I:iY b st cur fs s){r:Bytes}(hl:b.drop st.place=123::r)(f:Nat):Br b st cur fs (123::r) f (kj (i8 b) st):=by
 have hlen:=I.len;have hmay:=I.may;have h1:b.drop (st.place+1)=r:=bz (xs:=[123]) hl;have hpt:=xo I.kind;unfold kj tk
 by_cases hB:NoB (plc st.kind) fs
 ·obtain⟨b1,b2,b3,b4⟩:=hB;rw[hpt,Bool.true_and]at b3;rcases yL I.kind with⟨t1,t2,t3⟩|⟨t1,t2,t3,t4⟩
  ·rw[hlen,hmay,b3,b4,t1];exact .err st.place rfl (FC ⟨b1,b2,by rw[hpt,b3];rfl,b4⟩)
  ·rw[t3]at b2;cases b2
 ·have hc:(decide (st.aV.length<16)||(yF st||!jM st.kind))=true:=by
   rw[hlen,hmay];cases e1:decide (fs.length<16)with
   |true=>rfl
   |false=>
    cases e2:closes (plc st.kind) fs with
    |true=>rfl
    |false=>
     rcases yL I.kind with⟨t1,t2,t3⟩|⟨t1,t2,t3,t4⟩
     ·exact absurd ⟨by rw[t2];rfl,t3,by rw[hpt,e1];rfl,e2⟩ hB
     ·rw[t1];rfl
  rw[if_pos hc];show Br b st cur fs (123::r) f (if(decide (pk (i8 b) (st.place+1)=47)&&yF st)=true then zO st.place (i8 b) {st with place:=st.place+1}else if([42,63,33].contains (pk (i8 b) (st.place+1))&&decide (st.aV.length<16))=true then zP st.place (i8 b) {st with place:=st.place+1}
   else if jM st.kind=true then .error (st.place+1)else if pk (i8 b) (st.place+1)=123 then .ok (nt 8 st.place {st with place:=st.place+1+1})else(mNB (i8 b) {st with place:=st.place+1}).bind λs2=>.ok (nt 9 st.place s2))
  by_cases c47:∃r1,r=47::r1
  ·obtain⟨r1,rfl⟩:=c47;have e47:pk (i8 b) (st.place+1)=47:=(pkn h1 47).mpr ⟨r1,rfl⟩;rw[e47,hmay,decide_eq_true rfl,Bool.true_and];cases hcl:closes (plc st.kind) fs with
   |false=>
    rw[if_neg Bool.false_ne_true,show[42,63,33].contains (47:Int)=false from rfl,Bool.false_and,if_neg Bool.false_ne_true];refine .err (st.place+1) ?_ (CL hB hcl)
    by_cases ht:jM st.kind=true
    ·rw[if_pos ht]
    ·rw[if_neg ht,if_neg (by decide)]
     unfold mNB tk;dsimp only;rw[e47];rfl
   |true=>
    rw[if_pos rfl];cases fs with
    |nil=>cases hcl
    |cons x fs'=>
     have hx:x.place=plc st.kind:=of_decide_eq_true hcl;have h2:b.drop (st.place+1+1)=r1:=bz (xs:=[47]) h1;unfold zO;rcases Bw (st:={st with place:=st.place+1+1}) (z:=125) h2 with⟨u,rfl,q⟩|⟨q1,q⟩
     ·rw[show(125:Int)=(((125:UInt8).toNat:Nat):Int)from rfl,q];obtain⟨s',I'⟩:=I.fin hz hl hx;refine .ok ⟨st.place+3,st.kind,st.aV.dropLast,st.toks++[⟨11,st.kind,st.place,st.place+3⟩]⟩ _ _ _ ?_ I' (by show st.place<st.place+3;omega) ?_
      ·rfl
      ·rw[FD hB hcl];show _=readFrom f (plc st.kind) _ _ (b.drop (st.place+3)) _;rw[show b.drop (st.place+3)=u from bz (xs:=[123,47,125]) hl]
     ·rw[show(125:Int)=(((125:UInt8).toNat:Nat):Int)from rfl,q];exact .err (st.place+2) rfl (DS hB hcl q1)
  ·have n47:¬pk (i8 b) (st.place+1)=47:=λz=>c47 ((pkn h1 47).mp z);rw[decide_eq_false n47,Bool.false_and,if_neg Bool.false_ne_true];cases r with
   |nil=>
    have e256:pk (i8 b) (st.place+1)=256:=by rw[lj,h1];rfl
    rw[e256,show[42,63,33].contains (256:Int)=false from rfl,Bool.false_and,if_neg Bool.false_ne_true];refine .err (st.place+1) ?_ (FA hB)
    by_cases ht:jM st.kind=true
    ·rw[if_pos ht]
    ·rw[if_neg ht,if_neg (by decide)]
     unfold mNB tk;dsimp only;rw[e256];rfl
   |cons c r1=>
    have ec:pk (i8 b) (st.place+1)=((c.toNat:Nat):Int):=by rw[lj,h1];rfl
    have nc47:c≠47:=λz=>c47 ⟨r1,by rw[z]⟩
    have h2:b.drop (st.place+2)=r1:=bz (xs:=[123,c]) hl;have kin:[42,63,33].contains ((c.toNat:Nat):Int)=(kindIn c).isSome:=
     eq_of_beq (cv (P:=λc=>[42,63,33].contains ((c.toNat:Nat):Int)==(kindIn c).isSome) (by decide+kernel) c)
    rw[ec,kin,hlen];cases hy:kindIn c with
    |some y=>
     have nc123:c≠123:=by rintro rfl;cases hy
     have hrf:=DQ (f:=f) (k:=st.place) (cur:=cur) (s:=r1) hB nc123 nc47 hy;rw[hpt,Bool.true_and]at hrf;show Br b st cur fs _ f (if(true&&decide (fs.length<16))=true then _ else _)
     rw[Bool.true_and];cases hf16:decide (fs.length<16)with
     |true=>
      rw[hf16,if_neg (by decide)]at hrf
      rw[if_pos rfl];unfold zP;have h2':b.drop (st.place+1+1)=r1:=h2;rcases xy (st:={st with place:=st.place+1+1}) h2' with⟨n,ys,rfl,hn,q,hni⟩|⟨e,q,hni⟩
      ·rw[q];rw[hni]at hrf;have I':=I.beg hz hl hn hy (of_decide_eq_true hf16);refine .ok ⟨st.place+2+n.length+1,st.kind,st.aV++[st.kind],st.toks++[⟨10,st.kind,st.place,st.place+2+n.length+1⟩]⟩ _ _ _ rfl I' (by show st.place<st.place+2+n.length+1;omega) (hrf.trans ?_)
       show readFrom f (plc st.kind) _ _ ys _=readFrom f (plc st.kind) _ _ (b.drop (st.place+2+n.length+1)) _;rw[show b.drop (st.place+2+n.length+1)=ys from by
        have:=bz (xs:=n++[125]) (ys:=ys) (k:=st.place+2) (b:=b) (by rw[h2];simp)
        rw[List.length_append,List.length_cons,List.length_nil]at this;exact this]
      ·rw[q];rw[hni]at hrf;exact .err _ rfl hrf
     |false=>
      rw[hf16,if_pos rfl]at hrf;rw[if_neg Bool.false_ne_true];refine .err (st.place+1) ?_ hrf
      by_cases ht:jM st.kind=true
      ·rw[if_pos ht]
      ·rw[if_neg ht,if_neg (show¬((c.toNat:Nat):Int)=123 fromλz=>nc123 ((EZ (n:=123) (by decide)).mp z))]
       have hlet:letter c=false:=by
        have:=cv (P:=λc=>!(kindIn c).isSome||!letter c) (by decide+kernel) c
        rw[hy]at this
        simpa using this
       unfold mNB tk;dsimp only;rw[ec,hJ,hlet];rfl
    |none=>
     show Br b st cur fs _ f (if(false&&decide (fs.length<16))=true then _ else _)
     rw[Bool.false_and,if_neg Bool.false_ne_true]
     by_cases c123:c=123
     ·subst c123;rcases yL I.kind with⟨t1,t2,t3⟩|⟨t1,t2,t3,t4⟩
      ·rw[if_pos t1];exact .err (st.place+1) rfl (by rw[BJ hB,t2])
      ·rw[if_neg (by rw[t1];exact Bool.false_ne_true),if_pos (by rfl)]
       refine .ok ⟨st.place+2,st.kind,st.aV,st.toks++[⟨8,st.kind,st.place,st.place+2⟩]⟩ _ _ _ rfl (I.two hz hl t4) (by show st.place<st.place+2;omega) ?_
       rw[BJ hB,t2];show readFrom f (plc st.kind) _ _ r1 _=readFrom f (plc st.kind) _ _ (b.drop (st.place+2)) _;rw[h2]
     ·have hrf:=DR (f:=f) (k:=st.place) (cur:=cur) (s:=r1) hB c123 nc47 hy;rcases yL I.kind with⟨t1,t2,t3⟩|⟨t1,t2,t3,t4⟩
      ·rw[if_pos t1];rw[if_pos t3]at hrf;exact .err (st.place+1) rfl hrf
      ·rw[if_neg (by rw[t1];exact Bool.false_ne_true),if_neg (show¬((c.toNat:Nat):Int)=123 fromλz=>c123 ((EZ (n:=123) (by decide)).mp z))]
       rw[if_neg (by rw[t3];decide)]at hrf
       rcases xy (st:={st with place:=st.place+1}) h1 with⟨n,ys,e1,hn,q,hni⟩|⟨e,q,hni⟩
       ·rw[q];rw[hni]at hrf;rw[e1]at hl h1;have I':=I.fill hz hl hn t4;refine .ok ⟨st.place+1+n.length+1,st.kind,st.aV,st.toks++[⟨9,st.kind,st.place,st.place+1+n.length+1⟩]⟩ _ _ _ rfl I' (by show st.place<st.place+1+n.length+1;omega) (hrf.trans ?_)
        show readFrom f (plc st.kind) _ _ ys _=readFrom f (plc st.kind) _ _ (b.drop (st.place+1+n.length+1)) _;rw[show b.drop (st.place+1+n.length+1)=ys from by
         have:=bz (xs:=n++[125]) (ys:=ys) (k:=st.place+1) (b:=b) (by rw[h1];simp)
         rw[List.length_append,List.length_cons,List.length_nil]at this;exact this]
       ·rw[q];rw[hni]at hrf;exact .err _ rfl hrf
end
theorem drop_len{b l:Bytes}{k:Nat}(h:b.drop k=l)(hk:k≤b.length):l.length=b.length-k:=by rw[←h,List.length_drop]
theorem wy{b:Bytes}(hz:b.length≤5000):∀{f' f:Nat}{st:SS}{l:Bytes}{cur:List Node}{fs:List Frm}{s:RS},iY b st cur fs s→b.drop st.place=l→l.length<f→l.length<f'→
  match readFrom f (plc st.kind) cur fs l st.place with
  |.ok t=>∃ts ps ns,cp (i8 b) true f' st=.ok ts∧readM (i8 b) ts=some ps∧gA 16 0 ps .text ns .text∧t=TR ns
  |.error k=>cp (i8 b) true f' st=.error k
 |0,f,st,l,cur,fs,s,_,_,_,h=>absurd h (Nat.not_lt_zero _)
 |f'+1,0,st,l,cur,fs,s,_,_,h,_=>absurd h (Nat.not_lt_zero _)
 |f'+1,f+1,st,l,cur,fs,s,I,hl,hf,hf'=>by
  cases l with
  |nil=>
   have e:cp (i8 b) true (f'+1) st=if st.kind≠1∨st.aV≠[]then .error st.place else .ok st.toks:=if_neg (qY hl)
   rw[e];show match(if plc st.kind=.text∧fs.isEmpty=true then Except.ok (build cur)else .error st.place)with|.ok t=>_|.error k=>_
   by_cases h1:st.kind=1∧fs=[]
   ·obtain⟨hk,rfl⟩:=h1;have hs:st.aV=[]:=List.length_eq_zero_iff.mp I.len;rw[if_pos ⟨by rw[hk];rfl,rfl⟩,if_neg (by rintro(z|z);exact z hk;exact z hs)]
    obtain⟨A,lc,p0,ns,q0,q1,q2,q3,q4,q5⟩:=I.code;have hpl:st.place=b.length:=by
     have:=drop_len hl I.le;rw[List.length_nil]at this;have:=I.le;omega
    generalize hbg:s.bg=bg at q2
    cases q2;obtain⟨lc',f1,f2⟩:=jK (e:=st.place) (t0:=s.to) (ps:=s.ps) hz q3 q1 I.to I.le q5;refine⟨_,lc',_,rfl,?_,by rw[hk]at f2;exact f2,?_⟩
    ·unfold readM;rw[I.fold];show some (gz (i8 b) s.to (i8 b).length s.ps)=_;rw[Sp.aQ,←hpl,f1];rfl
    ·unfold TR;rw[←q4,List.reverse_reverse]
   ·have n1:¬(plc st.kind=.text∧fs.isEmpty=true):=λz=>h1 ⟨(lA I.kind).mp z.1,List.isEmpty_iff.mp z.2⟩;have n2:st.kind≠1∨st.aV≠[]:=by
     by_cases hk:st.kind=1
     ·right
      intro z;have:=I.len;rw[z]at this;exact h1 ⟨hk,List.length_eq_zero_iff.mp this.symm⟩
     ·exact .inl hk
    rw[if_neg n1,if_pos n2]
  |cons c r=>
   have e:cp (i8 b) true (f'+1) st=(iV (i8 b) true st).bind (cp (i8 b) true f'):=if_pos (qX hl);rw[e]
   by_cases hc:c=123
   ·subst hc;have e2:iV (i8 b) true st=kj (i8 b) st:=if_pos (by
     rw[Bool.true_and,decide_eq_true_eq];exact(pkn hl 123).mpr ⟨r,rfl⟩)
    rw[e2];cases Jf hz I hl f with
    |err e h1 h2=>rw[h1,h2];rfl
    |ok st' cur' fs' s' h1 I' lt h2=>
     rw[h1,h2];have d1:=drop_len hl I.le;have d2:=drop_len (b:=b) (k:=st'.place) rfl I'.le;have:=I'.le;exact wy hz I' rfl (by omega) (by omega)
   ·rcases qV (tm:=true) I.kind hl (.inr hc)with⟨xs,ys,κ,ts,e1,pc,e2⟩|⟨xs,ys,q,e1,g,sp,e2⟩
    ·have g:=G3 (tm:=true) pc (.inr (by
      have:=(rJ pc).1;cases xs with
      |nil=>exact absurd this (by decide)
      |cons x xs'=>injection e1 with e1 _;rw[←e1];simpa using hc))
     rw[e1]at hl hf hf'⊢;have hx:=(rJ pc).1;rw[List.length_append]at hf hf';rw[e2,show f+1=xs.length+(f+1-xs.length)by omega,GR I.fok g]
     exact wy hz (I.uf hl pc g) (bz hl) (by omega) (by omega)
    ·rw[e1]at hf;rw[List.length_append]at hf;have:∃m,f+1=xs.length+(m+1):=⟨f-xs.length,by omega⟩
     obtain⟨m,hm⟩:=this;rw[e2,e1,hm,GR I.fok g,FE I.fok sp];rfl
end
section
open Stencil (Bytes next build Node out itemsIn holdsIn valueOf bodies escape)
open Sp (i8)
def DOk(d:SD):Prop:=(∀(j:Nat)(e:Nat×Stencil.Bytes),d.items[j]?=some e→e.1≤j)∧d.items.length≤32
inductive Upp(d:SD)(s:Nat):Nat→Prop
 |refl:Upp d s s
 |step {j:Nat} {e:Nat×Bytes} (h:d.items[j]?=some e) (u:Upp d s e.1):Upp d s (j+1)
section
variable {d:SD}{s:Nat}
theorem Upp.le(hd:DOk d){x:Nat}(h:Upp d s x):s≤x:=by
 induction h with
 |refl=>exact Nat.le_refl _
 |step h _ ih=>have:=hd.1 _ _ h;omega
theorem Upp.up{a:Nat}{n:Bytes}(ha:d.items[a]?=some (s,n)){x:Nat}(h:Upp d (a+1) x):Upp d s x:=by
 induction h with
 |refl=>exact .step ha .refl
 |step h _ ih=>exact .step h ih
theorem Upp.one(hd:DOk d){a c:Nat}{n n':Bytes}(ha:d.items[a]?=some (s,n))(hc:d.items[c]?=some (s,n')){x:Nat}(h:Upp d (a+1) x):Upp d (c+1) x→a=c:=by
 have la:=hd.1 _ _ ha;have lc:=hd.1 _ _ hc;dsimp only at la lc
 induction h with
 |refl=>
  intro h2
  generalize hx:a+1=x at h2
  cases h2 with
  |refl=>omega
  |@step j e h u=>
   have:a=j:=by omega
   subst this;rw[ha]at h;injection h with h
   subst h;have:=u.le hd;dsimp only at this;omega
 |@step j e h u ih=>
  intro h2
  generalize hx:j+1=x at h2
  cases h2 with
  |refl=>
   have:j=c:=by omega
   subst this;rw[hc]at h;injection h with h
   subst h;have:=u.le hd;dsimp only at this;omega
  |@step j' e' h' u'=>
   have:j=j':=by omega
   subst this;rw[h]at h';injection h' with h'
   subst h';exact ih u'
open Classical in
noncomputable def has(d:SD)(s x:Nat):Nat:=if Upp d s x then 1 else 0
noncomputable def wt(d:SD)(s:Nat):Nat:=((List.range (d.items.length+1)).map (has d s)).sum
def GD(d:SD)(s:Nat)(L:List Nat):Prop:=L.Nodup∧∀j∈L,∃a n,j=a+1∧d.items[a]?=some (s,n)
theorem Gr(hd:DOk d){L:List Nat}(k:GD d s L)(x:Nat):(L.map λj=>has d j x).sum≤has d s x:=by
 induction L with
 |nil=>exact Nat.zero_le _
 |cons j r ih=>
  obtain⟨nd,h⟩:=k;rw[List.nodup_cons]at nd;have kr:GD d s r:=⟨nd.2,λj' hj=>h j' (List.mem_cons_of_mem _ hj)⟩;obtain⟨a,n,rfl,ha⟩:=h j List.mem_cons_self;rw[List.map_cons,List.sum_cons]
  by_cases hu:Upp d (a+1) x
  ·have e1:has d (a+1) x=1:=if_pos hu;have e2:has d s x=1:=if_pos (hu.up ha);have e3:(r.map λj=>has d j x).sum=0:=by
    have:∀j'∈r,has d j' x=0:=λj' hj=>by
     obtain⟨c,n',rfl,hc⟩:=kr.2 j' hj;refine if_neg λhu'=>?_;have:=hu.one hd ha hc hu';subst this;exact nd.1 hj
    clear ih kr nd h
    induction r with
    |nil=>rfl
    |cons y r ih2=>rw[List.map_cons,List.sum_cons,this y List.mem_cons_self,ih2 λj' hj=>this j' (List.mem_cons_of_mem _ hj)]
   omega
  ·have e1:has d (a+1) x=0:=if_neg hu;have:=ih kr;omega
theorem DB{L R:List Nat}{g:Nat→Nat→Nat}{u:Nat→Nat}(h:∀x∈R,(L.map λj=>g j x).sum≤u x):(L.map λj=>(R.map (g j)).sum).sum≤(R.map u).sum:=by
 induction R with
 |nil=>
  have:∀L:List Nat,(L.map λ_=>0).sum=0:=λL=>by induction L with|nil=>rfl|cons _ _ ih=>rw[List.map_cons,List.sum_cons,ih]
  show(L.map λj=>0).sum≤0;rw[this];exact Nat.le_refl _
 |cons x R ih=>
  have add:∀L:List Nat,(L.map λj=>((x::R).map (g j)).sum).sum=(L.map λj=>g j x).sum+(L.map λj=>(R.map (g j)).sum).sum:=λL=>by
   induction L with
   |nil=>rfl
   |cons y L ih=>rw[List.map_cons,List.sum_cons,ih,List.map_cons,List.sum_cons,List.map_cons,List.sum_cons,List.map_cons,List.sum_cons];omega
  rw[add,List.map_cons,List.sum_cons];have h1:=h x List.mem_cons_self;have h2:=ih λy hy=>h y (List.mem_cons_of_mem _ hy);omega
theorem E7(hd:DOk d){L:List Nat}(k:GD d s L):(L.map (wt d)).sum≤wt d s:=DB λx _=>Gr hd k x
theorem Dm(hs:s≤d.items.length):1≤wt d s:=by
 unfold wt;have m:s∈List.range (d.items.length+1):=List.mem_range.mpr (by omega)
 have key:∀L:List Nat,s∈L→1≤(L.map (has d s)).sum:=λL=>by
  induction L with
  |nil=>intro h;cases h
  |cons y r ih=>
   intro h;rw[List.map_cons,List.sum_cons];rcases List.mem_cons.mp h with z|z
   ·have:has d s y=1:=by rw[←z];exact if_pos .refl
    omega
   ·have:=ih z;omega
 exact key _ m
theorem Jn(hd:DOk d)(s:Nat):wt d s≤33:=by
 unfold wt;have key:∀L:List Nat,(L.map (has d s)).sum≤L.length:=λL=>by
  induction L with
  |nil=>exact Nat.le_refl _
  |cons y r ih=>
   rw[List.map_cons,List.sum_cons,List.length_cons];have:has d s y≤1:=by unfold has;split<;>decide
   omega
 have:=key (List.range (d.items.length+1));rw[List.length_range]at this;have:=hd.2;omega
theorem A6(n:Bytes):GD d s (itemsIn d s n):=by
 unfold itemsIn;refine⟨?_,λj hj=>?_⟩
 ·exact List.Pairwise.map (λj=>j+1) (R:=λa c=>a≠c) (λa c h z=>h (Nat.succ.inj z)) (List.Pairwise.filter _ List.nodup_range)
 ·obtain⟨a,ha,rfl⟩:=List.mem_map.mp hj;have:=(List.mem_filter.mp ha).2;exact⟨a,n,rfl,eq_of_beq this⟩
end
theorem sU(b:UInt8)(ns:List Node):TR (.lit b::ns)=.lit b (TR ns):=by unfold TR build;rw[List.reverse_cons,List.foldl_append];rfl
theorem oV(n:Bytes)(ns:List Node):TR (.hole n::ns)=.hole n (TR ns):=by unfold TR build;rw[List.reverse_cons,List.foldl_append];rfl
theorem sS(y:Stencil.Kind)(n:Bytes)(t:Stencil.Tree)(ns:List Node):TR (.sec y n t::ns)=.sec y n t (TR ns):=by unfold TR build;rw[List.reverse_cons,List.foldl_append];rfl
def Lg(p:Plc):Node→Plc
 |.lit b=>(next p b).getD p
 |_=>p
def aft(p:Plc)(ns:List Node):Plc:=ns.foldl Lg p
theorem yr(d:SD)(sc:List Nat)(ms:List Node):∀(ns:List Node)(p:Plc),out d p sc (TR (ns++ms))=out d p sc (TR ns)++out d (aft p ns) sc (TR ms):=by
 intro ns
 induction ns with
 |nil=>intro p;rfl
 |cons x ns ih=>
  intro p;cases x with
  |lit b=>
   rw[List.cons_append,sU,sU];show b::out d _ sc _=(b::out d _ sc _)++_;rw[ih];rfl
  |hole n=>
   rw[List.cons_append,oV,oV];show _++out d _ sc _=(_++out d _ sc _)++_;rw[ih,List.append_assoc];rfl
  |sec y n t=>
   rw[List.cons_append,sS,sS];show _++out d _ sc _=(_++out d _ sc _)++_;rw[ih,List.append_assoc];rfl
theorem tS(ms:List Node):∀(ns:List Node)(p:Plc),Stencil.holes p (TR (ns++ms))=Stencil.holes p (TR ns)++Stencil.holes (aft p ns) (TR ms):=by
 intro ns
 induction ns with
 |nil=>intro p;rfl
 |cons x ns ih=>
  intro p;cases x with
  |lit b=>
   rw[List.cons_append,sU,sU];show Stencil.holes ((next p b).getD p) (TR (ns++ms))=Stencil.holes ((next p b).getD p) (TR ns)++_
   rw[ih];rfl
  |hole n=>
   rw[List.cons_append,oV,oV];show _::Stencil.holes _ _=(_::Stencil.holes _ _)++_;rw[ih];rfl
  |sec y n t=>
   rw[List.cons_append,sS,sS];show _++Stencil.holes _ _=(_++Stencil.holes _ _)++_;rw[ih,List.append_assoc];rfl
theorem y4(p:Plc)(ns ms:List Node):aft p (ns++ms)=aft (aft p ns) ms:=List.foldl_append ..
theorem E3:∀{bs:Bytes}{p q:Plc},go false p bs=some q→aft p (bs.map .lit)=q:=by
 intro bs
 induction bs with
 |nil=>intro p q h;injection h
 |cons c r ih=>
  intro p q h;have h:(next p c).bind (λm=>go false m r)=some q:=h
  obtain⟨m,h1,h2⟩:=Option.bind_eq_some_iff.mp h;show aft ((next p c).getD p) (r.map .lit)=q
  rw[h1];exact ih h2
theorem Eg(d:SD)(sc:List Nat):∀(bs:Bytes)(p:Plc),out d p sc (TR (bs.map .lit))=bs:=by
 intro bs
 induction bs with
 |nil=>intro p;rfl
 |cons c r ih=>intro p;rw[List.map_cons,sU];show c::out d _ sc _=_;rw[ih]
theorem A8:∀(bs:Bytes)(p:Plc),Stencil.holes p (TR (bs.map .lit))=[]:=by
 intro bs
 induction bs with
 |nil=>intro p;rfl
 |cons c r ih=>intro p;rw[List.map_cons,sU];show Stencil.holes ((next p c).getD p) (TR (r.map .lit))=_;rw[ih]
theorem gA.aft{m off:Nat}{l:List Pce}{p q:Plc}{ns:List Node}(h:gA m off l p ns q):W2.aft p ns=q:=by
 induction h with
 |nil=>rfl
 |run _ g _ ih=>rw[y4,ih];exact E3 g
 |hole _ _ _ ih=>rw[y4,ih];rfl
 |sec _ _ _ ih _=>rw[y4,ih];rfl
theorem sW(n:Bytes):toB (i8 n)=n:=by
 unfold toB i8;rw[List.map_map];have:((λ(z:Int)=>UInt8.ofNat z.toNat)∘λ(c:UInt8)=>((c.toNat:Nat):Int))=id:=by
  funext c
  show UInt8.ofNat (((c.toNat:Nat):Int)).toNat=c;rw[Int.toNat_natCast,UInt8.ofNat_toNat]
 rw[this,List.map_id]
theorem Jo{κ:Int}(hk:κ=1∨κ=2∨κ=3)(v:Bytes):wr κ (i8 v)=i8 (escape (plc κ) v):=by
 have one:∀c:UInt8,(if jN ((c.toNat:Nat):Int) κ=true then j5 ((c.toNat:Nat):Int)else[((c.toNat:Nat):Int)])=i8 (escape (plc κ) [c]):=λc=>by
  rcases hk with rfl|rfl|rfl
  ·exact eq_of_beq (cv (P:=λc=>(if jN ((c.toNat:Nat):Int) 1=true then j5 ((c.toNat:Nat):Int)else[((c.toNat:Nat):Int)])==i8 (escape (plc 1) [c])) (by decide+kernel) c)
  ·exact eq_of_beq (cv (P:=λc=>(if jN ((c.toNat:Nat):Int) 2=true then j5 ((c.toNat:Nat):Int)else[((c.toNat:Nat):Int)])==i8 (escape (plc 2) [c])) (by decide+kernel) c)
  ·exact eq_of_beq (cv (P:=λc=>(if jN ((c.toNat:Nat):Int) 3=true then j5 ((c.toNat:Nat):Int)else[((c.toNat:Nat):Int)])==i8 (escape (plc 3) [c])) (by decide+kernel) c)
 have app:∀a c:Bytes,escape (plc κ) (a++c)=escape (plc κ) a++escape (plc κ) c:=λa c=>by unfold escape;rw[List.flatMap_append]
 induction v with
 |nil=>rfl
 |cons c r ih=>
  rw[Sp.si,show c::r=[c]++r from rfl,app,Sp.oF,←one c,←ih];unfold wr;rw[List.flatMap_cons]
end
section
open Stencil (Bytes next build Node out itemsIn holdsIn valueOf bodies escape)
open Sp (i8)
def Goes(d:SD)(ps:List Pce)(n:Nat)(a c:WS):Prop:=∀f,uI d ps (n+f) a=uI d ps f c
section
variable {d:SD}{ps:List Pce}
theorem Goes.refl(a:WS):Goes d ps 0 a a:=λf=>by rw[Nat.zero_add]
theorem Goes.trans{n m:Nat}{a c e:WS}(h:Goes d ps n a c)(h2:Goes d ps m c e):Goes d ps (n+m) a e:=λf=>by rw[Nat.add_assoc,h,h2]
theorem Goes.one{a c:WS}(h:a.place<ps.length)(h2:pN d ps a=some c):Goes d ps 1 a c:=λf=>by
 rw[Nat.add_comm];show(if a.place<ps.length then(pN d ps a).bind (uI d ps f)else _)=_
 rw[if_pos h,h2];rfl
theorem E1{A B:List Pce}{p:Pce}{i:Nat}(h:A.length=i):(A++p::B)[i]?=some p:=by
 subst h;rw[List.getElem?_append_right (Nat.le_refl _),Nat.sub_self];rfl
theorem Cq{A B:List Pce}{p:Pce}{i:Nat}(h:A.length=i):i<(A++p::B).length:=by
 rw[List.length_append,List.length_cons];omega
theorem step_at{A B:List Pce}{p:Pce}{st:WS}(hp:ps=A++p::B)(h:A.length=st.place):pN d ps st=if p.aZ=1 then some {st with place:=st.place+1,rows:=st.rows++[p.row]}
  else if p.aZ=2 then(match p.kind with
   |some kd=>if kd=1∨kd=2∨kd=3 then some {st with place:=st.place+1,rows:=st.rows++[wr kd (i8 (valueOf d st.sc (toB p.row)))]}else none
   |none=>none)
  else if p.aZ=3 then lO d p {st with place:=st.place+1}
  else if p.aZ=6 then x8 ps p {st with place:=st.place+1}
  else if holdsIn d st.sc (toB p.row)=decide (p.aZ=5)then(p.cy.map λn=>{st with place:=n+1})
  else some {st with place:=st.place+1}:=by
 unfold pN;rw[hp,E1 h]
 try rfl
end
theorem Cu{d:SD}(hd:DOk d){m off:Nat}{l:List Pce}{p q:Plc}{ns:List Node}(h:gA m off l p ns q):∀(A B:List Pce)(s0:Nat)(sc:List Nat)(cm:List (List Nat))(rows:List (List Int)),A.length=off→s0≤d.items.length→(s0::sc).length+m≤900→cm.length+m≤900→
  ∃n R,Goes d (A++(l++B)) n ⟨off,s0::sc,cm,rows⟩ ⟨off+l.length,s0::sc,cm,rows++R⟩∧R.flatten=i8 (out d p (s0::sc) (TR ns))∧R.length≤l.length*wt d s0:=by
 induction h with
 |nil=>
  intro A B s0 sc cm rows _ _ _ _;exact⟨0,[],by rw[List.append_nil];exact Goes.refl _,rfl,Nat.zero_le _⟩
 |@run m off l p q q' ns bs h g z ih=>
  intro A B s0 sc cm rows hA hs h1 h2;obtain⟨n,R,g1,g2,g3⟩:=ih A (⟨1,none,i8 bs,none⟩::B) s0 sc cm rows hA hs h1 h2;have e:A++(l++[⟨1,none,i8 bs,none⟩]++B)=A++(l++⟨1,none,i8 bs,none⟩::B):=by simp
  have e2:A++(l++(⟨1,none,i8 bs,none⟩:Pce)::B)=(A++l)++⟨1,none,i8 bs,none⟩::B:=by simp
  have hl:(A++l).length=off+l.length:=by rw[List.length_append,hA]
  rw[e];refine⟨n+1,R++[i8 bs],g1.trans (Goes.one (by rw[e2];exact Cq hl) ?_),?_,?_⟩
  ·rw[step_at e2 hl];dsimp only;rw[if_pos rfl,List.length_append,List.append_assoc];rfl
  ·rw[List.flatten_append,g2,yr,Sp.oF,Eg];simp
  ·rw[List.length_append,List.length_append,List.length_cons,List.length_nil,Nat.add_mul,List.length_cons,List.length_nil,Nat.zero_add,Nat.one_mul];have:=Dm hs;omega
 |@hole m off l p ns κ nm h hk z ih=>
  intro A B s0 sc cm rows hA hs h1 h2;obtain⟨n,R,g1,g2,g3⟩:=ih A (⟨2,some κ,i8 nm,none⟩::B) s0 sc cm rows hA hs h1 h2;have e:A++(l++[⟨2,some κ,i8 nm,none⟩]++B)=A++(l++⟨2,some κ,i8 nm,none⟩::B):=by simp
  have e2:A++(l++(⟨2,some κ,i8 nm,none⟩:Pce)::B)=(A++l)++⟨2,some κ,i8 nm,none⟩::B:=by simp
  have hl:(A++l).length=off+l.length:=by rw[List.length_append,hA]
  rw[e];refine⟨n+1,R++[wr κ (i8 (valueOf d (s0::sc) nm))],g1.trans (Goes.one (by rw[e2];exact Cq hl) ?_),?_,?_⟩
  ·rw[step_at e2 hl];dsimp only;rw[if_neg (by decide),if_pos rfl,if_pos hk,sW,List.length_append,List.append_assoc];rfl
  ·rw[List.flatten_append,g2,yr,Sp.oF,h.aft,oV,Jo hk];show _++(_++[])=_++i8 (escape (plc κ) (valueOf d (s0::sc) nm)++[]);rw[List.append_nil,List.append_nil]
  ·rw[List.length_append,List.length_append,List.length_cons,List.length_nil,Nat.add_mul,List.length_cons,List.length_nil,Nat.zero_add,Nat.one_mul];have:=Dm hs;omega
 |@sec m off l l' p q ns body k1 k2 y nm h h' z ih ih'=>
  intro A B s0 sc cm rows hA hs h1 h2
  generalize hbg:(⟨eF y,k1,i8 nm,some (off+l.length+1+l'.length)⟩:Pce)=bg
  generalize hen:(⟨6,k2,[],some (off+l.length)⟩:Pce)=en
  obtain⟨n,R,g1,g2,g3⟩:=ih A (bg::(l'++en::B)) s0 sc cm rows hA hs h1 h2;have e:A++(l++(bg::(l'++[en]))++B)=A++(l++bg::(l'++en::B)):=by simp
  have e2:A++(l++bg::(l'++en::B))=(A++l)++bg::(l'++en::B):=by simp
  have e3:A++(l++bg::(l'++en::B))=(A++l++[bg])++(l'++en::B):=by simp
  have e4:A++(l++bg::(l'++en::B))=(A++l++[bg]++l')++en::B:=by simp
  have hl:(A++l).length=off+l.length:=by rw[List.length_append,hA]
  have hl3:(A++l++[bg]).length=off+l.length+1:=by rw[List.length_append,hl];rfl
  have hl4:(A++l++[bg]++l').length=off+l.length+1+l'.length:=by rw[List.length_append,hl3]
  have htot:off+(l++(bg::(l'++[en]))).length=off+l.length+1+l'.length+1:=by
   simp only[List.length_append,List.length_cons,List.length_nil];omega
  rw[e,htot];have lt0:off+l.length<(A++(l++bg::(l'++en::B))).length:=by rw[e2];exact Cq hl
  have ltN:off+l.length+1+l'.length<(A++(l++bg::(l'++en::B))).length:=by rw[e4];exact Cq hl4
  have atb:(A++(l++bg::(l'++en::B)))[off+l.length]?=some bg:=by rw[e2];exact E1 hl
  rw[List.length_cons]at h1
  generalize hps:A++(l++bg::(l'++en::B))=ps at*
  have wq:∀(st:WS),st.place=off+l.length+1+l'.length→pN d ps st=x8 ps en {st with place:=st.place+1}:=λst hst=>by
   rw[step_at e4 (by rw[hl4,hst]),←hen]
   dsimp only;rw[if_neg (by decide),if_neg (by decide),if_neg (by decide),if_pos rfl]
  have endE:∀(st:WS),x8 ps en st=if eF y≠3 then some st else match st.sc,st.cm with
    |_::sc,[]::cm=>some {st with sc:=sc,cm:=cm}
    |_::sc,(j::js)::cm=>if sc.length<1000 then some {st with sc:=j::sc,cm:=js::cm,place:=off+l.length+1}else none
    |_,_=>none:=λst=>by
   unfold x8;rw[←hen];dsimp only;rw[atb,←hbg]
   try rfl
  have begS:∀(rs:List (List Int)),pN d ps ⟨off+l.length,s0::sc,cm,rs⟩=if eF y=3 then lO d bg ⟨off+l.length+1,s0::sc,cm,rs⟩else if holdsIn d (s0::sc) nm=decide (eF y=5)then some ⟨off+l.length+1+l'.length+1,s0::sc,cm,rs⟩else some ⟨off+l.length+1,s0::sc,cm,rs⟩:=λrs=>by
   rw[step_at e2 hl,←hbg];dsimp only;rw[sW];cases y<;>rfl
  have fin:∀(N:Nat)(R2:List (List Int)),Goes d ps N ⟨off+l.length,s0::sc,cm,rows++R⟩ ⟨off+l.length+1+l'.length+1,s0::sc,cm,rows++R++R2⟩→R2.flatten=i8 ((bodies d (s0::sc) y nm).flatMap λs=>out d q s (TR body))→R2.length≤l'.length*wt d s0→
    ∃n R,Goes d ps n ⟨off,s0::sc,cm,rows⟩ ⟨off+l.length+1+l'.length+1,s0::sc,cm,rows++R⟩∧R.flatten=i8 (out d p (s0::sc) (TR (ns++[.sec y nm (TR body)])))∧R.length≤(l++bg::(l'++[en])).length*wt d s0:=λN R2 q1 q2 q3=>by
   refine⟨n+N,R++R2,g1.trans (by rw[←List.append_assoc];exact q1),?_,?_⟩
   ·rw[List.flatten_append,g2,q2,yr,Sp.oF,h.aft,sS];show _=_++i8 (_++[]);rw[List.append_nil]
   ·rw[List.length_append];have:(l++bg::(l'++[en])).length=l.length+l'.length+2:=by simp only[List.length_append,List.length_cons,List.length_nil];omega
    rw[this,Nat.add_mul,Nat.add_mul];omega
  have once:∀(j:Nat)(sc':List Nat)(cm':List (List Nat))(rs:List (List Int)),j≤d.items.length→(j::sc').length+m≤900→cm'.length+m≤900→
    ∃n R,Goes d ps n ⟨off+l.length+1,j::sc',cm',rs⟩ ⟨off+l.length+1+l'.length,j::sc',cm',rs++R⟩∧R.flatten=i8 (out d q (j::sc') (TR body))∧R.length≤l'.length*wt d j:=λj sc' cm' rs a1 a2 a3=>by
   have:=ih' (A++l++[bg]) (en::B) j sc' cm' rs hl3 a1 a2 a3;rw[e3];exact this
  by_cases hy:y=.each
  ·subst hy;have loop:∀(js:List Nat)(j:Nat)(rs:List (List Int)),(∀x∈j::js,x≤d.items.length)→∃n R,Goes d ps n ⟨off+l.length+1,j::s0::sc,js::cm,rs⟩ ⟨off+l.length+1+l'.length+1,s0::sc,cm,rs++R⟩∧R.flatten=i8 ((j::js).flatMap λx=>out d q (x::s0::sc) (TR body))∧R.length≤l'.length*((j::js).map (wt d)).sum:=by
    intro js
    induction js with
    |nil=>
     intro j rs hx;obtain⟨n,R,q1,q2,q3⟩:=once j (s0::sc) ([]::cm) rs (hx j List.mem_cons_self) (by simp only[List.length_cons];omega) (by simp only[List.length_cons];omega)
     refine⟨n+1,R,q1.trans (Goes.one ltN ?_),?_,?_⟩
     ·rw[wq _ rfl,endE];rfl
     ·rw[q2,List.flatMap_cons,List.flatMap_nil,List.append_nil]
     ·rw[List.map_cons,List.map_nil,List.sum_cons,List.sum_nil,Nat.add_zero];exact q3
    |cons j2 js ihj=>
     intro j rs hx;obtain⟨n,R,q1,q2,q3⟩:=once j (s0::sc) ((j2::js)::cm) rs (hx j List.mem_cons_self) (by simp only[List.length_cons];omega) (by simp only[List.length_cons];omega)
     obtain⟨n2,R2,r1,r2,r3⟩:=ihj j2 (rs++R) λx hx'=>hx x (List.mem_cons_of_mem _ hx');refine⟨n+1+n2,R++R2,(q1.trans (Goes.one ltN ?_)).trans (by rw[←List.append_assoc];exact r1),?_,?_⟩
     ·rw[wq _ rfl,endE];show(if(s0::sc).length<1000 then _ else none)=_
      rw[if_pos (by rw[List.length_cons];omega)]
     ·rw[List.flatten_append,q2,r2,List.flatMap_cons (x:=j),Sp.oF]
     ·rw[List.length_append,List.map_cons,List.sum_cons,Nat.mul_add];omega
   have hb:bodies d (s0::sc) .each nm=(itemsIn d s0 nm).map λs=>s::s0::sc:=rfl;have hwb:∀rs,lO d bg ⟨off+l.length+1,s0::sc,cm,rs⟩=match itemsIn d s0 nm with
     |[]=>some ⟨off+l.length+1+l'.length+1,s0::sc,cm,rs⟩
     |j::js=>if cm.length<1000∧(s0::sc).length<1000 then some ⟨off+l.length+1,j::s0::sc,js::cm,rs⟩else none:=λrs=>by
    unfold lO;rw[←hbg];dsimp only;rw[sW]
    try rfl
   have kd:=A6 (d:=d) (s:=s0) nm;cases hi:itemsIn d s0 nm with
   |nil=>
    refine fin 1 [] (by rw[List.append_nil];exact Goes.one lt0 (by rw[begS,if_pos (show eF .each=3 from rfl),hwb,hi])) ?_ (Nat.zero_le _)
    rw[hb,hi];rfl
   |cons j js=>
    rw[hi]at kd;have hx:∀x∈j::js,x≤d.items.length:=λx hx=>by
     obtain⟨a,nn,rfl,ha⟩:=kd.2 x hx;have:=(List.getElem?_eq_some_iff.mp ha).1;omega
    obtain⟨n2,R2,r1,r2,r3⟩:=loop js j (rows++R) hx;refine fin (1+n2) R2 ((Goes.one lt0 ?_).trans r1) ?_ (Nat.le_trans r3 (Nat.mul_le_mul_left _ (E7 hd kd)))
    ·rw[begS,if_pos (show eF .each=3 from rfl),hwb,hi];dsimp only;rw[if_pos ⟨by omega,by rw[List.length_cons];omega⟩]
    ·rw[r2,hb,hi,List.flatMap_map]
  ·have n3:eF y≠3:=by cases y<;>first|exact absurd rfl hy|decide
   by_cases hc:holdsIn d (s0::sc) nm=decide (eF y=5)
   ·refine fin 1 [] (by rw[List.append_nil];exact Goes.one lt0 (by rw[begS,if_neg n3,if_pos hc])) ?_ (Nat.zero_le _)
    have:bodies d (s0::sc) y nm=[]:=by
     cases y with
     |each=>exact absurd rfl hy
     |holds=>exact if_neg (by rw[hc];decide)
     |fails=>exact if_pos (by rw[hc];decide)
    rw[this];rfl
   ·obtain⟨n2,R2,q1,q2,q3⟩:=once s0 sc cm (rows++R) hs (by rw[List.length_cons];omega) (by omega)
    refine fin (1+n2+1) R2 (((Goes.one lt0 (by rw[begS,if_neg n3,if_neg hc])).trans q1).trans (Goes.one ltN ?_)) ?_ q3
    ·rw[wq _ rfl,endE,if_pos n3]
    ·have:bodies d (s0::sc) y nm=[s0::sc]:=by
      cases y with
      |each=>exact absurd rfl hy
      |holds=>
       refine if_pos ?_;cases hh:holdsIn d (s0::sc) nm with
       |true=>rfl
       |false=>rw[hh]at hc;exact absurd (by decide) hc
      |fails=>
       refine if_neg ?_;intro hh;rw[hh]at hc;exact hc (by decide)
     rw[q2,this,List.flatMap_cons,List.flatMap_nil,List.append_nil]
theorem A9{m off:Nat}{l:List Pce}{p q:Plc}{ns:List Node}(h:gA m off l p ns q):(l.filter λp=>decide (p.aZ=2)).map (λp=>(p.kind,p.row))=(Stencil.holes p (TR ns)).map λh=>(some ((h.2:Nat):Int),i8 h.1):=by
 induction h with
 |nil=>rfl
 |run h g z ih=>
  rw[List.filter_append,List.map_append,ih,tS,List.map_append,A8];rfl
 |@hole m off l p ns κ nm h hk z ih=>
  rw[List.filter_append,List.map_append,ih,tS,List.map_append,h.aft,oV]
  congr 1
  rcases hk with rfl|rfl|rfl<;>rfl
 |@sec m off l l' p q ns body k1 k2 y nm h h' z ih ih'=>
  rw[List.filter_append,List.map_append,ih,tS,List.map_append,h.aft,sS]
  congr 1
  show _=(Stencil.holes q (TR body)++Stencil.holes q (TR [])).map _;rw[List.map_append,←ih',List.filter_cons,if_neg (show¬decide (eF y=2)=true by cases y<;>decide),List.filter_append,List.map_append];rfl
theorem xl{m off:Nat}{l:List Pce}{p q:Plc}{ns:List Node}(h:gA m off l p ns q):∀x∈l,i8 (toB x.row)=x.row∧x.row.length≤5000:=by
 induction h with
 |nil=>exactλx hx=>nomatch hx
 |run h g z ih=>
  intro x hx;rcases List.mem_append.mp hx with hx|hx
  ·exact ih x hx
  ·rw[List.mem_singleton.mp hx];exact⟨by rw[sW],by rw[Sp.aQ];exact z⟩
 |hole h hk z ih=>
  intro x hx;rcases List.mem_append.mp hx with hx|hx
  ·exact ih x hx
  ·rw[List.mem_singleton.mp hx];exact⟨by rw[sW],by rw[Sp.aQ];exact z⟩
 |sec h h' z ih ih'=>
  intro x hx;rcases List.mem_append.mp hx with hx|hx
  ·exact ih x hx
  ·rcases List.mem_cons.mp hx with rfl|hx
   ·exact⟨by rw[sW],by rw[Sp.aQ];exact z⟩
   ·rcases List.mem_append.mp hx with hx|hx
    ·exact ih' x hx
    ·rw[List.mem_singleton.mp hx];exact⟨rfl,Nat.zero_le _⟩
theorem CN{r:List Int}{ts:List Tok}{s:RS}(h:iz r ts=some s):s.ps.length≤2*ts.length:=by
 have key:∀i,i≤ts.length→∀s,iz r (ts.take i)=some s→s.ps.length≤2*i∧s.bg.length≤i:=by
  intro i
  induction i with
  |zero=>intro _ s h;injection h with h;subst h;exact⟨Nat.le_refl _,Nat.le_refl _⟩
  |succ i ih=>
   intro hi s h;have ht:ts[i]?=some ts[i]:=List.getElem?_eq_getElem hi;rw[take_snoc ht,mf]at h;obtain⟨a,h1,h2⟩:=Option.bind_eq_some_iff.mp h;exact xn (ih (by omega) a h1) h2
 exact(key ts.length (Nat.le_refl _) s (by rw[List.take_length];exact h)).1
end
section
open Sp (i8)
structure Ks(ps:List Pce)(t:Stencil.Tree):Prop where
 rows:∀p∈ps,i8 (toB p.row)=p.row
 few:ps.length<100000
 small:∀p∈ps,p.row.length≤5000
 out:∀d:SD,DOk d→∃f R,uI d ps f ⟨0,[0],[],[]⟩=some R∧R.flatten=i8 (Stencil.whole d t)∧R.length<10000000
 holes:(ps.filter λp=>decide (p.aZ=2)).map (λp=>(p.kind,p.row))=(Stencil.holes .text t).map λh=>(some ((h.2:Nat):Int),i8 h.1)
theorem CV(b:Stencil.Bytes)(hz:b.length≤5000):match Stencil.readTemplate b with
  |.ok t=>∃ts ps,eG (i8 b) true=.ok ts∧readM (i8 b) ts=some ps∧Ks ps t
  |.error k=>eG (i8 b) true=.error k:=by
 have I:iY b ⟨0,1,[],[]⟩ [] [] ⟨[],[],0⟩:=⟨.inl rfl,rfl,Nat.le_refl _,Nat.zero_le _,rfl,(λ_ h=>nomatch h),Nat.zero_le _,[],[],.text,[],.text,rfl,.nil,.nil,rfl,rfl⟩;have key:=wy hz (f':=(i8 b).length+1) (f:=b.length+1) I rfl (by show b.length<_;omega) (by show b.length<_;rw[Sp.aQ];omega)
 have key:match Stencil.readTemplate b with
  |.ok t=>∃ts ps ns,eG (i8 b) true=.ok ts∧readM (i8 b) ts=some ps∧gA 16 0 ps .text ns .text∧t=TR ns
  |.error k=>eG (i8 b) true=.error k:=key
 cases hr:Stencil.readTemplate b with
 |error k=>rw[hr]at key;exact key
 |ok t=>
  rw[hr]at key;obtain⟨ts,ps,ns,h1,h2,hc,rfl⟩:=key;have hts:=oX (by rw[Sp.aQ];exact hz) h1
  rw[Sp.aQ]at hts;have few:ps.length<20000:=by
   unfold readM at h2;obtain⟨s,e1,e2⟩:=Option.map_eq_some_iff.mp h2;have h3:=CN e1;have h4:=wF (i8 b) s.to (i8 b).length s.ps;rw[e2]at h4;omega
  refine⟨ts,ps,h1,h2,λp hp=>(xl hc p hp).1,by omega,λp hp=>(xl hc p hp).2,λd hd=>?_,A9 hc⟩
  obtain⟨n,R,g1,g2,g3⟩:=Cu hd hc [] [] 0 [] [] [] rfl (Nat.zero_le _) (by decide) (by decide)
  rw[List.nil_append,List.append_nil,List.nil_append,Nat.zero_add]at g1;refine⟨n+1,R,(g1 1).trans ?_,g2,?_⟩
  ·show(if ps.length<ps.length then _ else some R)=_
   rw[if_neg (Nat.lt_irrefl _)]
  ·have w1:=Jn hd 0;have:ps.length*wt d 0≤20000*33:=Nat.mul_le_mul (by omega) w1
   omega
theorem Gd(b:Stencil.Bytes):match Stencil.markFault .text b 0 with
  |none=>∃ts,eG (i8 b) false=.ok ts
  |some k=>eG (i8 b) false=.error k:=
 Ak (f:=(i8 b).length+1) (st:=⟨0,1,[],[]⟩) (.inl rfl) rfl (by show b.length<_;rw[Sp.aQ];omega) rfl
theorem B1(b:Stencil.Bytes):match Stencil.eventsOf b with
  |none=>∃k,eG (i8 b) false=.error k
  |some l=>∃ts,eG (i8 b) false=.ok ts∧told (i8 b) ts=some (l.map λe=>(Stencil.kindOf e,i8 (Stencil.saidBy e))):=
 Cd (f:=(i8 b).length+1) (st:=⟨0,1,[],[]⟩) (buf:=[]) (ev:=[]) (acc:=[]) (.inl rfl) rfl (by show b.length<_;rw[Sp.aQ];omega) rfl rfl (.inl ⟨rfl,(λz=>nomatch z),rfl⟩)
end
section
open Sp (i8 ans)
open Wqatae (State says tells)
theorem zy{X:Cx}{C:Addr}{B newId initId:String}{bm:List Value}{f:Str}{e:Expr}{pos:Pos}{ta:TE}(K:PySem.W.Frag)(xc:sJ K C B newId initId bm)(he:PE X e ta)(hb:attributeBase e f X.env (eval e X.env)=eval e X.env)(hK:X.K=K:=by rfl):PE X (.Attribute e f pos) (GI K C ta f):=by
 subst hK;exact FQ xc he hb
def jJ(st:Stmt)(i:Nat):List Stmt:=match(eW st).getD i (.Pass ⟨0,0,0,0⟩)with
 |.Try _ (.ExceptHandler _ _ b _::_) _ _ _=>b
 |_=>[]
def Off(x:SX)(pl:Addr)(as:List PA):Prop:=pl∉x.O∧∀q∈as,q.a∉x.O∧q.ra∉x.O∧q.ka∉x.O
def PcV(c:Cs)(H:Hp)(x:SX)(pv:V):Option Stencil.Tree→Prop
 |none=>pv=.non
 |some t=>∃pl as ps,pv=.ref pl∧di c H pl as ps∧Ks ps t∧Off x pl as
structure bQ(c:Cs)(H:Hp)(e:Addr)(x:SX)(s:State):Prop where
 self:∃dx pv,H e=some (.ins c.Engine dx (gr pv (.ref x.s)))∧PcV c H x pv s.tmpl
 store:aH c H x s.data
structure EUp(e:Addr)(x:SX)(H:Hp)(x':SX)(H':Hp):Prop where
 fr:Fr (λb=>b=e∨b∈x.O) H H'
 new:∀b∈x'.O,b∈x.O∨H b=none
theorem EUp.of{e:Addr}{x:SX}{H H':Hp}(s:aE H H'):EUp e x H x H':=⟨Fr.of s,λ_ h=>.inl h⟩
theorem EUp.same{e:Addr}{x x':SX}{H H' H2:Hp}(u:EUp e x H x' H')(s:aE H' H2):EUp e x H x' H2:=⟨u.fr.trans (Fr.of s),u.new⟩
theorem Up.eup{e:Addr}{x x':SX}{H H':Hp}(u:Up x H x' H'):EUp e x H x' H':=⟨u.fr.mono λ_ _ _ h=>.inr h,u.new⟩
theorem oh{H:Hp}{x:SX}{d:SD}(S:aH c H x d){b:Addr}(h:b∈x.O):(∃dx fs v,H b=some (.ins c.Store dx fs)∧fs.lookup ("trail":Str)=some v)∨(∃y ys,H b=some (.lst (.ref y::ys)))∨(∃kvs,H b=some (.dT kvs)):=by
 obtain⟨dx,hs⟩:=S.self;unfold SX.O at h;rcases List.mem_cons.mp h with z|h
 ·rw[z];exact .inl ⟨_,_,_,hs,rfl⟩
 ·rcases List.mem_cons.mp h with z|h
  ·rw[z,S.tr];exact .inr (.inl ⟨_,_,rfl⟩)
  ·rcases List.mem_append.mp h with h|h
   ·obtain⟨q,hq,e⟩:=List.mem_map.mp h;obtain⟨i,hi⟩:=List.getElem?_of_mem hq;obtain⟨k,e1,_⟩:=S.texts i q hi;rw[←e];exact .inr (.inr ⟨_,e1⟩)
   ·rcases List.mem_append.mp h with h|h
    ·obtain⟨q,hq,e⟩:=List.mem_map.mp h;obtain⟨i,hi⟩:=List.getElem?_of_mem hq;obtain⟨k,e1,_⟩:=S.lists i q hi;rw[←e];exact .inr (.inr ⟨_,e1⟩)
    ·obtain⟨p,hp,e⟩:=List.mem_map.mp h;obtain⟨y,ys,e1⟩:=S.kinds p hp;rw[←e];exact .inr (.inl ⟨y,ys,e1⟩)
theorem u6{H:Hp}{x:SX}{d:SD}(S:aH c H x d){b C dx:Addr}{fs:List (Str×V)}(e:H b=some (.ins C dx fs))(hf:fs.lookup ("trail":Str)=none):b∉x.O:=λh=>by
 rcases oh S h with⟨d1,f1,v,e1,e2⟩|⟨y,ys,e1⟩|⟨k,e1⟩
 ·rw[e]at e1;injection e1 with e1
  injection e1 with _ _ e1
  rw[e1,e2]at hf;cases hf
 ·rw[e]at e1;cases e1
 ·rw[e]at e1;cases e1
theorem zF{H:Hp}{x:SX}{d:SD}(S:aH c H x d){b:Addr}{l:List Int}(e:H b=some (.lst (l.map V.int))):b∉x.O:=λh=>by
 rcases oh S h with⟨d1,f1,v,e1,e2⟩|⟨y,ys,e1⟩|⟨k,e1⟩
 ·rw[e]at e1;cases e1
 ·rw[e]at e1;injection e1 with e1
  exact pd e1
 ·rw[e]at e1;cases e1
theorem F5{H:Hp}{x:SX}{d:SD}(S:aH c H x d){b:Addr}{l:List V}(e:H b=some (.tup l)):b∉x.O:=λh=>by
 rcases oh S h with⟨d1,f1,v,e1,e2⟩|⟨y,ys,e1⟩|⟨k,e1⟩<;>(rw[e]at e1;cases e1)
theorem FY{H:Hp}{x:SX}{d:SD}{pl:Addr}{as:List PA}{ps:List Pce}(S:aH c H x d)(P:di c H pl as ps)(h:pl∉x.O):Off x pl as:=by
 refine⟨h,λq hq=>?_⟩;obtain⟨i,hi⟩:=List.getElem?_of_mem hq;obtain⟨p,hp,⟨dx,e1⟩,e2,e3⟩:=P.each.get hi;exact⟨u6 S e1 rfl,zF S e2,F5 S e3⟩
theorem PcV.up{H H':Hp}{x x':SX}{pv:V}{t:Option Stencil.Tree}(h:PcV c H x pv t)(k:∀b o,H b=some o→b∉x.O→H' b=some o)(n:∀b∈x'.O,b∈x.O∨H b=none):PcV c H' x' pv t:=by
 cases t with
 |none=>exact h
 |some t=>
  obtain⟨pl,as,ps,rfl,P,TM,o1,o2⟩:=h;have out:∀b o,H b=some o→b∉x.O→b∉x'.O:=λb o e hb h'=>by
   rcases n b h' with z|z
   ·exact hb z
   ·rw[e]at z;cases z
  refine⟨pl,as,ps,rfl,⟨k _ _ P.lst o1,?_⟩,TM,out _ _ P.lst o1,λq hq=>?_⟩
  ·exact(P.each.kU (P:=λq=>q.a∉x.O∧q.ra∉x.O∧q.ka∉x.O) o2).imp λq p⟨⟨⟨d,e1⟩,e2,e3⟩,n1,n2,n3⟩=>⟨⟨d,k _ _ e1 n1⟩,k _ _ e2 n2,k _ _ e3 n3⟩
  ·obtain⟨i,hi⟩:=List.getElem?_of_mem hq;obtain⟨p,hp,⟨dx,e1⟩,e2,e3⟩:=P.each.get hi;obtain⟨n1,n2,n3⟩:=o2 q hq;exact⟨out _ _ e1 n1,out _ _ e2 n2,out _ _ e3 n3⟩
theorem PcV.same{H H':Hp}{x:SX}{pv:V}{t:Option Stencil.Tree}(h:PcV c H x pv t)(s:aE H H'):PcV c H' x pv t:=h.up (λb o e _=>s b o e) λb hb=>.inl hb
theorem bQ.same{H H':Hp}{e:Addr}{x:SX}{s:State}(h:bQ c H e x s)(sm:aE H H'):bQ c H' e x s:=by
 obtain⟨⟨dx,pv,h1,h2⟩,h3⟩:=h;exact⟨⟨dx,pv,sm _ _ h1,h2.same sm⟩,h3.same sm⟩
theorem bQ.up{H H':Hp}{e:Addr}{x x':SX}{s:State}{d:SD}(h:bQ c H e x s)(u:Up x H x' H')(S:aH c H' x' d):bQ c H' e x' {s with data:=d}:=by
 obtain⟨⟨dx,pv,h1,h2⟩,h3⟩:=h;refine⟨⟨dx,pv,?_,h2.up u.fr u.new⟩,S⟩;rw[u.s];exact u.fr _ _ h1 (u6 h3 h1 rfl)
theorem aH.off{H:Hp}{x:SX}{d:SD}{e C dx:Addr}{fs:List (Str×V)}{o:HO}(S:aH c H x d)(he:H e=some (.ins C dx fs))(f1:fs.lookup ("trail":Str)=none)(f2:fs.lookup ("texts":Str)=none)(f3:fs.lookup ("length":Str)=none):aH c (upd H e o) x d:=by
 have ne:∀b∈x.O,b≠e:=λb hb z=>u6 S he f1 (z▸hb);have kl:∀{b:Addr}{u:HO},H b=some u→(∀C dx fs,u≠.ins C dx fs)→upd H e o b=some u:=λg n=>by rw[ae (aF g he (n _ _ _))];exact g
 have kT:∀a' w,cu c H a' w→cu c (upd H e o) a' w:=λa' w h=>by
  obtain⟨dt,wd,l1,l2,l3,e1,e2,e3,e4,e5⟩:=h;exact⟨dt,wd,l1,l2,l3,by rw[ae (aF e1 he (Ne.symm (dW "length" f3 rfl)))];exact e1,kl e2 (by intro _ _ _ z;cases z),kl e3 (by intro _ _ _ z;cases z),kl e4 (by intro _ _ _ z;cases z),kl e5 (by intro _ _ _ z;cases z)⟩
 obtain⟨⟨ds,hs⟩,h2,h3,h4,h5,h6,h7,h8,h9,h10,h11,h12,h13,h15,h16,h17,h14⟩:=S;refine⟨⟨ds,by rw[ae (aF hs he (Ne.symm (dW "trail" f1 rfl)))];exact hs⟩,kl h2 (by intro _ _ _ z;cases z),h3,λi q g=>?_,λi q g=>?_,λi q g=>?_,λi n=>?_,h8,h9,h10,h11,h12,h13,h15,h16,h17,λp hp=>?_⟩
 ·obtain⟨d1,g1⟩:=h4 i q g;exact⟨d1,by rw[ae (aF g1 he (Ne.symm (dW "texts" f2 rfl)))];exact g1⟩
 ·obtain⟨k,e1,e2,e3⟩:=h5 i q g;exact⟨k,kl e1 (by intro _ _ _ z;cases z),e2,λn=>(e3 n).kp kT⟩
 ·obtain⟨k,e1,e2⟩:=h6 i q g;exact⟨k,kl e1 (by intro _ _ _ z;cases z),e2⟩
 ·rcases h7 i n with g|⟨la,e1,e2,e3⟩
  ·exact .inl g
  ·exact .inr ⟨la,e1,e2,kl e3 (by intro _ _ _ z;cases z)⟩
 ·obtain⟨y,ys,g⟩:=h14 p hp;exact⟨y,ys,kl g (by intro _ _ _ z;cases z)⟩
theorem di.off{H:Hp}{pl e C dx:Addr}{as:List PA}{ps:List Pce}{fs:List (Str×V)}{o:HO}(P:di c H pl as ps)(he:H e=some (.ins C dx fs))(f1:fs.lookup ("what":Str)=none):di c (upd H e o) pl as ps:=by
 have kl:∀{b:Addr}{u:HO},H b=some u→(∀C dx fs,u≠.ins C dx fs)→upd H e o b=some u:=λg n=>by rw[ae (aF g he (n _ _ _))];exact g
 refine⟨kl P.lst (by intro _ _ _ z;cases z),P.each.imp λq p⟨⟨d,e1⟩,e2,e3⟩=>⟨⟨d,?_⟩,kl e2 (by intro _ _ _ z;cases z),kl e3 (by intro _ _ _ z;cases z)⟩⟩
 rw[ae (aF e1 he (Ne.symm (dW "what" f1 rfl)))];exact e1
theorem PcV.off{H:Hp}{x:SX}{pv:V}{t:Option Stencil.Tree}{e C dx:Addr}{fs:List (Str×V)}{o:HO}(h:PcV c H x pv t)(he:H e=some (.ins C dx fs))(f1:fs.lookup ("what":Str)=none):PcV c (upd H e o) x pv t:=by
 cases t with
 |none=>exact h
 |some t=>
  obtain⟨pl,as,ps,rfl,P,TM,ho⟩:=h;exact⟨pl,as,ps,rfl,P.off he f1,TM,ho⟩
def Done(c:Cs)(e:Addr)(x:SX)(H:Hp)(s':State)(out:List Int)(Q:VK):Prop:=∀H' x' l,bQ c H' e x' s'→EUp e x H x' H'→H' l=some (.lst (out.map V.int))→Q (.ref l) H'
def HI(c:Cs)(f:State→State×List Int):Sp:=λvs H Q _=>∃(e:Addr)(x:SX)(s:State),vs=[.ref e]∧bQ c H e x s∧Done c e x H (f s).1 (f s).2 Q
def KO(c:Cs):Sp:=λvs H Q _=>∃(e dx:Addr)(H0:Hp),vs=[.ref e]∧H=upd H0 e (.ins c.Engine dx [])∧H0 e=none∧∀H' x,aE H0 H'→(∀b∈x.O,H0 b=none)→bQ c H' e x Wqatae.start→Q .non H'
theorem vQ(T:Txt K mg c):sM P w K mg base c.Engine "Engine" ["self"] 5 (KO c):=by
 refine T.iL.has (k:=4) vw (λvs H Q E h=>?_) (λfa cdv A outer sh0 H vs Q E hr h=>?_)
 ·obtain⟨e,dx,H0,rfl,_⟩:=h;rfl
 ·obtain⟨e,dx,H0,rfl,rfl,he,k⟩:=h;refine⟨_,(ag (aT (pv 0) AK rfl) (ah (aT (pv 0) (D8 (qa T) hr nox) rfl))),?_⟩
  try dsimp only[aM]
  walk_at"rd";refine wi T.iL.cl T.iU (by show 0<1000;decide) ?_
  refine cb (qK (nX (jy ?_)));intro a d3 ha hd nd;refine⟨a,d3,_,rfl,rfl,by rw[ae nd.symm];exact ha,λH' x s1 e1 n1 S=>⟨rfl,?_⟩⟩
  have s2:=(ao hd).trans s1;have he':=s2 _ _ (af (H:=H0) (a:=e));have fre:∀b∈x.O,b≠e∧H0 b=none:=λb hb=>by
   have h:=(ao hd).free (n1 b hb);have:b≠e:=λz=>by rw[z,af]at h;cases h
   rw[ae this]at h;exact⟨this,h⟩
  walk_at"rd";refine⟨e,_,dx,_,rfl,he',T.iL.cl,T.jC,by show 1<1000;decide,?_⟩
  have ne:∀b∈x.O,b≠e:=λb hb=>(fre b hb).1;refine k _ x (λb o q=>?_) (λb hb=>(fre b hb).2) ⟨⟨dx,.non,?_,rfl⟩,?_⟩
  ·have:b≠e:=aw q he;rw[ae this];exact s2 _ _ (by rw[ae this];exact q)
  ·rw[af,e1];rfl
  ·exact S.off he' rfl rfl rfl
theorem mx(T:Txt K mg c):bU P w K mg base c.Engine "answer_clear" ["self"] 5 (HI c (λs=>({s with data:=Stencil.empty},[0]))):=by
 refine T.gU.has (k:=4) lV (λvs H Q E h=>?_) (λfa cdv A outer sh0 H vs Q E hr h=>?_)
 ·obtain⟨e,x,s,rfl,_⟩:=h;rfl
 ·obtain⟨e,x,s,rfl,G,k⟩:=h;obtain⟨dx,pcv,hself,hpv⟩:=G.self;refine⟨_,(ag (aT (pv 0) (D8 (qa T) hr nox) rfl) (ah (ay (aU (aa aA ai))))),?_⟩
  try dsimp only[aM]
  refine aS (qK (nX (jy ?_)));intro a d3 ha hd nd;refine⟨a,d3,_,rfl,rfl,by rw[ae nd.symm];exact ha,λH' x' s1 e1 n1 S=>⟨rfl,?_⟩⟩
  have s2:=(ao hd).trans s1;have he':=s2 _ _ hself;have fre:∀b∈x'.O,H b=none:=λb hb=>(ao hd).free (n1 b hb);walk_at"rd";refine uH T he' ?_;walk_at"rd";refine⟨by show 1≤sizeLine;decide,λl hl=>?_⟩
  have s3:=ao (o:=.lst [.int 0]) hl;refine k _ x' l (bQ.same ⟨⟨dx,pcv,by rw[af,e1],?_⟩,S.off he' rfl rfl rfl⟩ s3) ⟨?_,λb hb=>.inr (fre b hb)⟩ af
  ·exact(hpv.up (λb o q _=>s2 b o q) (λb hb=>.inr (fre b hb))).off he' rfl
  ·exact((Fr.of s2).trans (ff (.inl rfl))).trans (Fr.of s3)
def HA(c:Cs):Sp:=λvs H Q _=>∃(e na ra:Addr)(x:SX)(s:State)(n v:Stencil.Bytes),vs=[.ref e,.ref na,.ref ra]∧bQ c H e x s∧H na=some (.lst ((i8 n).map V.int))∧H ra=some (.lst ((i8 v).map V.int))∧n.length≤100000∧Done c e x H {s with data:=(mh s.data n v).1} [(mh s.data n v).2] Q
theorem oq(T:Txt K mg c):bU P w K mg base c.Engine "answer_put" ["self","name","row"] 7 (HA c):=by
 refine T.i5.has (k:=6) nN (λvs H Q E h=>?_) (λfa cdv A outer sh0 H vs Q E hr h=>?_)
 ·obtain⟨e,na,ra,x,s,n,v,rfl,_⟩:=h;rfl
 ·obtain⟨e,na,ra,x,s,n,v,rfl,G,hna,hra,hz,k⟩:=h;obtain⟨dx,pcv,hself,hpv⟩:=G.self;obtain⟨ds,hs⟩:=G.store.self;refine⟨_,(ah (ay (aU (aa (pm (rO T) hr nox (ak (pv 0) rfl) (aa (pv 1) (aa (pv 2) ai))) ai)))),?_⟩
  try dsimp only[aM]
  walk_at"rd";refine c9 T hself ?_;refine eT hs ?_ rfl;walk_at"rd";refine⟨x,s.data,na,ra,n,v,rfl,G.store,hna,hra,hz,λH' u S=>?_⟩;walk_at"rd";refine⟨by show 1≤sizeLine;decide,λl hl=>?_⟩
  have s3:=ao (o:=.lst [.int (mh s.data n v).2]) hl;exact k _ x l ((G.up u S).same s3) (u.eup.same s3) af
def Fq(c:Cs):Sp:=λvs H Q _=>∃(e na:Addr)(x:SX)(s:State)(n:Stencil.Bytes),vs=[.ref e,.ref na]∧bQ c H e x s∧H na=some (.lst ((i8 n).map V.int))∧n.length≤100000∧Done c e x H {s with data:=(jb s.data n).1} [(jb s.data n).2] Q
theorem nv(T:Txt K mg c):bU P w K mg base c.Engine "answer_open" ["self","name"] 6 (Fq c):=by
 refine T.iH.has (k:=5) m9 (λvs H Q E h=>?_) (λfa cdv A outer sh0 H vs Q E hr h=>?_)
 ·obtain⟨e,na,x,s,n,rfl,_⟩:=h;rfl
 ·obtain⟨e,na,x,s,n,rfl,G,hna,hz,k⟩:=h;obtain⟨dx,pcv,hself,hpv⟩:=G.self;obtain⟨ds,hs⟩:=G.store.self;refine⟨_,(ah (ay (aU (aa (pm (qS T) hr nox (ak (pv 0) rfl) (aa (pv 1) ai)) ai)))),?_⟩
  try dsimp only[aM]
  walk_at"rd";refine c9 T hself ?_;refine eT hs ?_ rfl;walk_at"rd";refine⟨x,s.data,na,n,rfl,G.store,hna,hz,λH' x' u S=>?_⟩;walk_at"rd";refine⟨by show 1≤sizeLine;decide,λl hl=>?_⟩
  have s3:=ao (o:=.lst [.int (jb s.data n).2]) hl;exact k _ x' l ((G.up u S).same s3) (u.eup.same s3) af
theorem mw(T:Txt K mg c):bU P w K mg base c.Engine "answer_close" ["self"] 3 (HI c (λs=>({s with data:=(gw s.data).1},[(gw s.data).2]))):=by
 refine T.gS.has (k:=2) lU (λvs H Q E h=>?_) (λfa cdv A outer sh0 H vs Q E hr h=>?_)
 ·obtain⟨e,x,s,rfl,_⟩:=h;rfl
 ·obtain⟨e,x,s,rfl,G,k⟩:=h;obtain⟨dx,pcv,hself,hpv⟩:=G.self;obtain⟨ds,hs⟩:=G.store.self;refine⟨_,(ah (ay (aU (aa (pm0 (pK T) hr nox (ak (pv 0) rfl)) ai)))),?_⟩
  try dsimp only[aM]
  walk_at"rd";refine c9 T hself ?_;refine eT hs ?_ rfl;walk_at"rd";refine⟨x,s.data,rfl,G.store,λH' u S=>?_⟩;walk_at"rd";refine⟨by show 1≤sizeLine;decide,λl hl=>?_⟩
  have s3:=ao (o:=.lst [.int (gw s.data).2]) hl;exact k _ x l ((G.up u S).same s3) (u.eup.same s3) af
def mC(s:State)(b:Stencil.Bytes):State×List Int:=if 256<b.length then(s,[-2])else match Stencil.readTemplate b with
 |.ok t=>({s with tmpl:=some t},[0])
 |.error p=>(s,[-1,(p:Int)])
def HK(c:Cs):Sp:=λvs H Q _=>∃(e ra:Addr)(x:SX)(s:State)(b:Stencil.Bytes),vs=[.ref e,.ref ra]∧bQ c H e x s∧H ra=some (.lst ((i8 b).map V.int))∧Done c e x H (mC s b).1 (mC s b).2 Q
theorem kR(T:Txt K mg c):bU P w K mg base c.Engine "answer_compile" ["self","template"] 12 (HK c):=by
 refine T.fH.has (k:=11) cB (λvs H Q E h=>?_) (λfa cdv A outer sh0 H vs Q E hr h=>?_)
 ·obtain⟨e,ra,x,s,b,rfl,_⟩:=h;rfl
 ·obtain⟨e,ra,x,s,b,rfl,G,hra,k⟩:=h;obtain⟨dx,pcv,hself,hpv⟩:=G.self;unfold mC at k;have hs:∀ex,PSs (Xh (aM (CXx P w) P w K mg base ["self","template","pieces","fault"] "Engine.answer_compile" (aj bx) fa cdv A outer sh0 H E) ex) (jJ bx 1) _:=λex=>(ah (ay (aU (aa (dN cf aA) (aa (zy K T.fM.xc (pv 3) rfl) ai)))));refine⟨_,(ag (aP (az p8 (aK aD (by rfl) T.b8 PySem.boot_len (aa (pv 1) ai)) (pg T.jQ) (aB _)) (ah (ay (aU (aa (dN cf aA) ai)))) aO) (ag (D0 (λ_ _=>(ah (aI (i:=2) cB.nd rfl (Or.inl rfl) (pf (tI T) hr (vJ (X:=aM (CXx P w) P w K mg base ["self","template","pieces","fault"] "Engine.answer_compile" (aj bx) fa cdv A outer sh0 H E) (i:=3) T.fM.xc rfl rfl rfl rfl T.fM.mgx cB.nd rfl rfl hs) (aa (pv 1) ai)))))) (ag (aT (pv 0) (pv 2) rfl) (ah (ay (aU (aa aA ai))))))),?_⟩
  try dsimp only[aM]
  walk_at"rd";refine⟨ra,_,rfl,.inl (SqL.of hra),?_⟩;rw[List.length_map,Sp.aQ];refine r_c (uO (bR ?_));refine cj (λhb=>?_) (λhb=>?_)
  ·rw[decide_eq_true_eq]at hb;rw[if_pos (by omega)]at k
   walk_at"rd";refine⟨by show 1≤sizeLine;decide,λl hl=>?_⟩
   have s3:=ao (o:=.lst [.int (-2)]) hl;exact k _ x l (G.same s3) (EUp.of s3) af
  ·rw[decide_eq_false_iff_not]at hb;rw[if_neg (by omega)]at k
   have hm:=CV b (by omega)
   refine bw ?_;refine cb (aS ?_);refine lg (vD (l9 (fw rfl (jy ?_))));refine⟨ra,i8 b,rfl,hra,by rw[Sp.aQ];omega,?_⟩
   cases hrt:Stencil.readTemplate b with
   |ok t=>
    rw[hrt]at k hm;obtain⟨ts,ps,h1,h2,TM⟩:=hm;rw[h1];refine⟨ps,h2,λH1 l as s1 hl P=>?_⟩;have he1:=s1 _ _ hself;walk_at"rd";refine sP T he1 ?_;walk_at"rd";refine⟨by show 1≤sizeLine;decide,λl2 hl2=>?_⟩
    have s3:=ao (o:=.lst [.int 0]) hl2;have ST1:=G.store.same s1;refine k _ x l2 (bQ.same ⟨⟨dx,.ref l,af,?_⟩,ST1.off he1 rfl rfl rfl⟩ s3) ⟨((Fr.of s1).trans (ff (.inl rfl))).trans (Fr.of s3),λ_ h=>.inl h⟩ af;exact⟨l,as,ps,rfl,P.off he1 rfl,TM,FY ST1 P λh=>G.store.own h hl⟩
   |error p=>
    rw[hrt]at k hm;rw[show eG (i8 b) true=.error p from hm];intro H1 d1 hd1 s1;refine⟨rfl,d1,rfl,λex hex=>?_⟩;have s2:aE H1 (upd H1 ex (XR c.Fault ex d1)):=ao hex;walk_at"rd";refine⟨_,rfl,ex,d1,_,.int (p:Int),rfl,af,s2 _ _ hd1,T.rP,rfl,?_⟩;walk_at"rd";refine⟨by show 2≤sizeLine;decide,λl hl=>?_⟩
    have s3:=ao (o:=.lst [.int (-1),.int (p:Int)]) hl;have sz:=(s1.trans s2).trans s3;exact k _ x l (G.same sz) (EUp.of sz) af
end
section
open Sp (i8 ans)
open Wqatae (State says tells)
def wz(b:Stencil.Bytes):List Int:=if 1024<b.length then[-2]else match Stencil.markFault .text b 0 with
 |none=>[0]
 |some k=>[-1,(k:Int)]
def JL(c:Cs):Sp:=λvs H Q _=>∃(e ra:Addr)(x:SX)(s:State)(b:Stencil.Bytes),vs=[.ref e,.ref ra]∧bQ c H e x s∧H ra=some (.lst ((i8 b).map V.int))∧Done c e x H s (wz b) Q
theorem my(T:Txt K mg c):bU P w K mg base c.Engine "answer_check" ["self","markup"] 10 (JL c):=by
 refine T.gW.has (k:=9) fS (λvs H Q E h=>?_) (λfa cdv A outer sh0 H vs Q E hr h=>?_)
 ·obtain⟨e,ra,x,s,b,rfl,_⟩:=h;rfl
 ·obtain⟨e,ra,x,s,b,rfl,G,hra,k⟩:=h;unfold wz at k;have hs:∀ex,PSs (Xh (aM (CXx P w) P w K mg base ["self","markup","fault"] "Engine.answer_check" (aj bJ) fa cdv A outer sh0 H E) ex) (jJ bJ 1) _:=λex=>(ah (ay (aU (aa (dN cf aA) (aa (zy K T.fM.xc (pv 2) rfl) ai)))));refine⟨_,(ag (aP (az p8 (aK aD (by rfl) T.b8 PySem.boot_len (aa (pv 1) ai)) (pg T.hU) (aB _)) (ah (ay (aU (aa (dN cf aA) ai)))) aO) (ag (D0 (λ_ _=>(ah (ax (pf (oj T) hr (vJ (X:=aM (CXx P w) P w K mg base ["self","markup","fault"] "Engine.answer_check" (aj bJ) fa cdv A outer sh0 H E) (i:=2) T.fM.xc rfl rfl rfl rfl T.fM.mgx fS.nd rfl rfl hs) (aa (pv 1) ai)))))) (ah (ay (aU (aa aA ai)))))),?_⟩
  try dsimp only[aM]
  walk_at"rd";refine⟨ra,_,rfl,.inl (SqL.of hra),?_⟩;rw[List.length_map,Sp.aQ];refine r_c (uO (bR ?_));refine cj (λhb=>?_) (λhb=>?_)
  ·rw[decide_eq_true_eq]at hb;rw[if_pos (by omega)]at k
   walk_at"rd";refine⟨by show 1≤sizeLine;decide,λl hl=>?_⟩
   have s3:=ao (o:=.lst [.int (-2)]) hl;exact k _ x l (G.same s3) (EUp.of s3) af
  ·rw[decide_eq_false_iff_not]at hb;rw[if_neg (by omega)]at k
   have hm:=Gd b;refine bw ?_;refine cb (aS ?_);refine kK (vD (l9 (fw rfl (jy ?_))));refine⟨ra,i8 b,rfl,hra,by rw[Sp.aQ];omega,?_⟩
   cases hrt:Stencil.markFault .text b 0 with
   |none=>
    rw[hrt]at k hm;obtain⟨ts,h1⟩:=hm;rw[h1];intro H1 l as s1 hl P F;walk_at"rd";refine⟨by show 1≤sizeLine;decide,λl2 hl2=>?_⟩
    have s3:=ao (o:=.lst [.int 0]) hl2;have sz:=s1.trans s3;exact k _ x l2 (G.same sz) (EUp.of sz) af
   |some p=>
    rw[hrt]at k hm;rw[show eG (i8 b) false=.error p from hm];intro H1 d1 hd1 s1;refine⟨rfl,d1,rfl,λex hex=>?_⟩;have s2:aE H1 (upd H1 ex (XR c.Fault ex d1)):=ao hex;walk_at"rd";refine⟨_,rfl,ex,d1,_,.int (p:Int),rfl,af,s2 _ _ hd1,T.rP,rfl,?_⟩;walk_at"rd";refine⟨by show 2≤sizeLine;decide,λl hl=>?_⟩
    have s3:=ao (o:=.lst [.int (-1),.int (p:Int)]) hl;have sz:=(s1.trans s2).trans s3;exact k _ x l (G.same sz) (EUp.of sz) af
def Ab(i:Nat)(b:Stencil.Bytes):List Int:=if 1024<b.length then[-2]else match Stencil.eventsOf b with
 |none=>[-1]
 |some l=>match l[i]? with
  |some v=>Stencil.kindOf v::((Stencil.saidBy v).length:Int)::i8 (Stencil.saidBy v)
  |none=>[0]
def KN(c:Cs):Sp:=λvs H Q _=>∃(e ra:Addr)(x:SX)(s:State)(i:Nat)(b:Stencil.Bytes),vs=[.ref e,dQ i,.ref ra]∧bQ c H e x s∧H ra=some (.lst ((i8 b).map V.int))∧Done c e x H s (Ab i b) Q
theorem vi{b:Stencil.Bytes}{l:List Stencil.Event}{ts:List Tok}{i:Nat}{v:Stencil.Event}(hz:b.length≤5000)(h1:eG (i8 b) false=.ok ts)(h2:told (i8 b) ts=some (l.map λe=>(Stencil.kindOf e,i8 (Stencil.saidBy e))))(hv:l[i]?=some v):(Stencil.saidBy v).length≤20000:=by
 have hz':(i8 b).length≤5000:=by rw[Sp.aQ];exact hz
 have hl:=oX hz' h1;have key:∀n,n≤ts.length→∀acc,told (i8 b) (ts.take n)=some acc→Few acc n:=by
  intro n
  induction n with
  |zero=>
   intro _ acc h;injection h with h;subst h
   exact⟨Nat.le_refl _,λ_ h=>nomatch h⟩
  |succ n ih=>
   intro hn acc h;have ht:ts[n]?=some ts[n]:=List.getElem?_eq_getElem hn;rw[take_snoc ht,sV]at h;obtain⟨a0,e1,e2⟩:=Option.bind_eq_some_iff.mp h;exact z8 hz' (ih (by omega) a0 e1) e2
 have:=key ts.length (Nat.le_refl _) _ (by rw[List.take_length];exact h2)
 have m:(Stencil.kindOf v,i8 (Stencil.saidBy v))∈l.map λe=>(Stencil.kindOf e,i8 (Stencil.saidBy e)):=List.mem_map.mpr ⟨v,List.mem_of_getElem? hv,rfl⟩;have:=this.2 _ m;simp only[Sp.aQ]at this;rw[Sp.aQ]at hl;omega
theorem mv(T:Txt K mg c):bU P w K mg base c.Engine "answer_event" ["self","number","markup"] 11 (KN c):=by
 refine T.gR.has (k:=10) cY (λvs H Q E h=>?_) (λfa cdv A outer sh0 H vs Q E hr h=>?_)
 ·obtain⟨e,ra,x,s,i,b,rfl,_⟩:=h;rfl
 ·obtain⟨e,ra,x,s,i,b,rfl,G,hra,k⟩:=h;unfold Ab at k;have hs:∀ex,PSs (Xh (aM (CXx P w) P w K mg base ["self","number","markup","things","thing"] "Engine.answer_event" (aj bI) fa cdv A outer sh0 H E) ex) (jJ bI 1) _:=λex=>(ah (ay (aU (aa (dN cf aA) ai))));refine⟨_,(ag (aP (az p8 (aK aD (by rfl) T.b8 PySem.boot_len (aa (pv 2) ai)) (pg T.hU) (aB _)) (ah (ay (aU (aa (dN cf aA) ai)))) aO) (ag (FL (λ_ _=>(ah (aI (i:=3) cY.nd rfl (Or.inl rfl) (pf (vM T) hr (zA (X:=aM (CXx P w) P w K mg base ["self","number","markup","things","thing"] "Engine.answer_event" (aj bI) fa cdv A outer sh0 H E) T.fM.xc rfl rfl rfl rfl T.fM.mgx hs) (aa (pv 2) ai)))))) (ag (aP (az BV (pv 1) (aK aD (by rfl) T.b8 PySem.boot_len (aa (pv 3) ai)) (aB _)) (ah (ay (aU (aa aA ai)))) aO) (ag (aI (i:=4) cY.nd rfl (Or.inl rfl) (dz bD (pv 3) (pv 1) (λ_ _=>rfl))) (ah (ay (eM yw (aU (aa (ak (pv 4) rfl) (aa (aK aD (by rfl) T.b8 PySem.boot_len (aa (ak (pv 4) rfl) ai)) ai))) (ak (pv 4) rfl)))))))),?_⟩
  try dsimp only[aM]
  walk_at"rd";refine⟨ra,_,rfl,.inl (SqL.of hra),?_⟩;rw[List.length_map,Sp.aQ];refine r_c (uO (bR ?_));refine cj (λhb=>?_) (λhb=>?_)
  ·rw[decide_eq_true_eq]at hb;rw[if_pos (by omega)]at k
   walk_at"rd";refine⟨by show 1≤sizeLine;decide,λl hl=>?_⟩
   have s3:=ao (o:=.lst [.int (-2)]) hl;exact k _ x l (G.same s3) (EUp.of s3) af
  ·rw[decide_eq_false_iff_not]at hb;have hbz:b.length≤1024:=by omega
   rw[if_neg (by omega)]at k
   have hm:=B1 b;refine bw ?_;refine cb (aS ?_);refine lg (vD (l9 (fw rfl (jy ?_))));refine⟨ra,i8 b,rfl,hra,by rw[Sp.aQ];omega,?_⟩
   cases hrt:Stencil.eventsOf b with
   |none=>
    rw[hrt]at k hm;obtain⟨n,hn⟩:=hm;rw[hn];intro H1 d1 hd1 s1;refine⟨rfl,?_⟩;walk_at"rd";refine⟨by show 1≤sizeLine;decide,λl hl=>?_⟩
    have s3:=ao (o:=.lst [.int (-1)]) hl;have sz:=s1.trans s3;exact k _ x l (G.same sz) (EUp.of sz) af
   |some l=>
    rw[hrt]at k hm;obtain⟨ts,h1,h2⟩:=hm;rw[h1];refine⟨_,h2,λH1 la ps s1 TA=>?_⟩;dsimp only at k;have hlen:=TA.each.len;rw[List.length_map]at hlen;unfold dQ;walk_at"rd";refine⟨la,_,rfl,.inl (SqL.of TA.lst),?_⟩;rw[List.length_map,hlen];refine uO (bR ?_);refine cj (λhb2=>?_) (λhb2=>?_)
    ·rw[decide_eq_true_eq]at hb2;rw[List.getElem?_eq_none (by omega)]at k
     walk_at"rd";refine⟨by show 1≤sizeLine;decide,λl2 hl2=>?_⟩
     have s3:=ao (o:=.lst [.int 0]) hl2;have sz:=s1.trans s3;exact k _ x l2 (G.same sz) (EUp.of sz) af
    ·rw[decide_eq_false_iff_not]at hb2;have hi:i<l.length:=by omega
     have hv:l[i]?=some l[i]:=List.getElem?_eq_getElem hi;have hsm:=vi (by omega) h1 h2 hv
     rw[hv]at k;dsimp only at k;obtain⟨q,hq,⟨d1,e1⟩,e2⟩:=TA.each.get' (i:=i) (by rw[List.getElem?_map,hv];rfl)
     dsimp only at e1 e2;walk_at"rd";refine⟨la,_,_,.ref q.1,rfl,rfl,SqL.of TA.lst,c6 (j:=i) (by rw[List.getElem?_map,hq];rfl),?_⟩
     walk_at"rd";refine pX T e1 ?_;walk_at"rd";refine lZ T e1 ?_;walk_at"rd";refine⟨q.2,_,rfl,.inl (SqL.of e2),?_⟩;rw[List.length_map,Sp.aQ];walk_at"rd";refine⟨by show 2≤sizeLine;decide,λp2 hp2=>?_⟩
     have s2:=ao (o:=.lst [.int (Stencil.kindOf l[i]),.int ((Stencil.saidBy l[i]).length:Int)]) hp2;walk_at"rd";refine lZ T (s2 _ _ e1) ?_;refine BM af (s2 _ _ e2) (by rw[List.length_map,Sp.aQ];exact Nat.le_trans (show 2+(Stencil.saidBy l[i]).length≤20002 by omega) (by decide)) λp3 hp3=>?_
     have s3:=ao (o:=.lst ([.int (Stencil.kindOf l[i]),.int ((Stencil.saidBy l[i]).length:Int)]++(i8 (Stencil.saidBy l[i])).map V.int)) hp3;have sz:=(s1.trans s2).trans s3;exact k _ x p3 (G.same sz) (EUp.of sz) af
end
section
open Sp (i8 ans)
open Wqatae (State says tells)
def JJ(c:Cs):Sp:=λvs H Q _=>∃(e:Addr)(x:SX)(s:State),vs=[.ref e]∧bQ c H e x s∧Q (.bl s.ready.isSome) H
theorem iD(T:Txt K mg c):bU P w K mg base c.Engine "has_output" ["self"] 2 (JJ c):=by
 refine T.i4.has (k:=1) nM (λvs H Q E h=>?_) (λfa cdv A outer sh0 H vs Q E hr h=>?_)
 ·obtain⟨e,x,s,rfl,_⟩:=h;rfl
 ·obtain⟨e,x,s,rfl,G,k⟩:=h;obtain⟨dx,pcv,hself,hpv⟩:=G.self;obtain⟨ds,hs⟩:=G.store.self;unfold Wqatae.State.ready at k;refine⟨_,(ah (ay (yq (Iv (F0 (ak (pv 0) rfl))) (kM (D9 (pm0 (fY T) hr nox (ak (pv 0) rfl))))))),?_⟩
  try dsimp only[aM]
  walk_at"rd";refine d8 T hself ?_;cases ht:s.tmpl with
  |none=>
   rw[ht]at hpv k;obtain rfl:pcv=.non:=hpv;refine bR (ite_false ?_);have:((if s.data.opened.isEmpty=true then(none:Option Stencil.Tree)else none)).isSome=false:=by split<;>rfl
   rw[this]at k;exact k
  |some t=>
   rw[ht]at hpv k;obtain⟨pl,as,ps,rfl,P,TM,ho⟩:=hpv;refine bR (ite_true ?_);walk_at"rd";refine c9 T hself ?_;refine eT hs ?_ rfl;walk_at"rd";refine⟨x,s.data,rfl,G.store,?_⟩;refine bR ?_;cases ho:s.data.opened.isEmpty with
   |true=>
    rw[ho,if_pos rfl]at k;exact k
   |false=>
    rw[ho,if_neg Bool.false_ne_true]at k;exact k
def Fh(c:Cs):Sp:=λvs H Q _=>∃(e:Addr)(x:SX)(s:State)(t:Stencil.Tree),vs=[.ref e]∧bQ c H e x s∧s.tmpl=some t∧∀H' l R,aE H H'→wG H' l R→R.flatten=i8 (Stencil.whole s.data t)→R.length<10000000→Q (.ref l) H'
theorem fZ(T:Txt K mg c):bU P w K mg base c.Engine "whole_output" ["self"] 4 (Fh c):=by
 refine T.gQ.has (k:=3) lT (λvs H Q E h=>?_) (λfa cdv A outer sh0 H vs Q E hr h=>?_)
 ·obtain⟨e,x,s,t,rfl,_⟩:=h;rfl
 ·obtain⟨e,x,s,t,rfl,G,ht,k⟩:=h;obtain⟨dx,pcv,hself,hpv⟩:=G.self;obtain⟨ds,hs⟩:=G.store.self;rw[ht]at hpv;obtain⟨pl,as,ps,rfl,P,TM,ho⟩:=hpv;obtain⟨f,R,r1,r2,r3⟩:=TM.out s.data ⟨G.store.par,by have:=G.store.fit.1;unfold Stencil.count at this;omega⟩
  refine⟨_,(ah (ay (pf (vN T) hr nox (aa (ak (pv 0) rfl) (aa (pm0 (qR T) hr nox (ak (pv 0) rfl)) ai))))),?_⟩
  try dsimp only[aM]
  walk_at"rd";refine d8 T hself ?_;walk_at"rd";refine c9 T hself ?_;refine eT hs ?_ rfl;walk_at"rd";refine⟨x,s.data,rfl,G.store,?_⟩;walk_at"rd";exact⟨pl,x,s.data,as,ps,f,R,rfl,G.store,P,TM.rows,r1,r3,λH' l s1 hR=>k H' l R s1 hR r2 r3⟩
theorem CZ(R:List (List Int)):A3 R=((R.flatten.length:Nat):Int):=by
 unfold A3
 induction R with
 |nil=>rfl
 |cons r R ih=>rw[List.map_cons,List.sum_cons,ih,List.flatten_cons,List.length_append];omega
theorem sv{m:Nat}:∀(R:List (List Int))(tl:List Int)(sk:Nat),tl.length≤m→(tl≠[]→sk=0∨tl.length=m)→(R.foldl (c5 m) (tl,sk)).1=tl++(R.flatten.drop sk).take (m-tl.length)
 |[],tl,sk,_,_=>by simp
 |r::R,tl,sk,h,h0=>by
  rw[List.foldl_cons,List.flatten_cons];show(R.foldl (c5 m) (c5 m (tl,sk) r)).1=_;rw[show c5 m (tl,sk) r=(if r.length≤sk then(tl,sk-r.length)else if tl.length<m then(tl++(r.drop sk).take (m-tl.length),0)else(tl,sk))from rfl]
  by_cases h1:r.length≤sk
  ·rw[if_pos h1,sv R tl (sk-r.length) h (λhn=>by
    rcases h0 hn with z|z
    ·left;omega
    ·exact .inr z),List.drop_append,List.drop_eq_nil_of_le h1,List.nil_append]
  ·rw[if_neg h1]
   by_cases h2:tl.length<m
   ·rw[if_pos h2];have hl:(tl++(r.drop sk).take (m-tl.length)).length≤m:=by rw[List.length_append,List.length_take];omega
    rw[sv R _ 0 hl (λ_=>.inl rfl),List.drop_zero,List.append_assoc]
    congr 1
    rw[List.drop_append_of_le_length (by omega),List.take_append,List.length_append,List.length_take]
    congr 2
    omega
   ·rw[if_neg h2];have hm:tl.length=m:=by omega
    rw[sv R tl sk h (λ_=>.inr hm),hm,Nat.sub_self,List.take_zero,List.take_zero]
theorem Gz(R:List (List Int))(f m:Nat):Jb R f m=(R.flatten.drop f).take m:=by
 unfold Jb;rw[sv R [] f (Nat.zero_le _) (λh=>absurd rfl h)];simp
def oW(s:State):List Int:=match s.ready with
 |none=>[-1]
 |some t=>[0,((Stencil.whole s.data t).length:Int)]
theorem vB{s:State}{t:Stencil.Tree}(h:s.ready=some t):s.tmpl=some t:=by
 unfold Wqatae.State.ready at h
 split at h
 ·exact h
 ·cases h
theorem nk(T:Txt K mg c):bU P w K mg base c.Engine "answer_size" ["self"] 5 (HI c (λs=>(s,oW s))):=by
 refine T.iG.has (k:=4) m8 (λvs H Q E h=>?_) (λfa cdv A outer sh0 H vs Q E hr h=>?_)
 ·obtain⟨e,x,s,rfl,_⟩:=h;rfl
 ·obtain⟨e,x,s,rfl,G,k⟩:=h;have k:Done c e x H s (oW s) Q:=k;obtain⟨dx,pcv,hself,hpv⟩:=G.self;unfold oW at k;refine⟨_,(ag (aP (mi (dk (pm0 (iD T) hr nox (pv 0)))) (ah (ay (aU (aa (dN cf aA) ai)))) aO) (ah (ay (aU (aa aA (aa (pf (AM T) hr nox (aa (pm0 (fZ T) hr nox (pv 0)) ai)) ai)))))),?_⟩
  try dsimp only[aM]
  walk_at"rd";refine bP hself ?_ rfl;walk_at"rd";refine⟨e,x,s,rfl,G,?_⟩;cases hr0:s.ready with
  |none=>
   rw[hr0]at k;refine bR ?_;show if(!false)=true then _ else _
   refine A7 ?_;walk_at"rd";refine⟨by show 1≤sizeLine;decide,λl hl=>?_⟩
   have s3:=ao (o:=.lst [.int (-1)]) hl;exact k _ x l (G.same s3) (EUp.of s3) af
  |some t=>
   rw[hr0]at k;refine bR ?_;show if(!true)=true then _ else _
   refine v7 ?_;walk_at"rd";refine bP hself ?_ rfl;walk_at"rd";refine⟨e,x,s,t,rfl,G,vB hr0,λH1 l R s1 hR hfl hz=>?_⟩;walk_at"rd";refine⟨l,R,rfl,hR,hz,λH2 s2=>?_⟩;rw[CZ,hfl,Sp.aQ];walk_at"rd";refine⟨by show 2≤sizeLine;decide,λl2 hl2=>?_⟩
   have s3:=ao (o:=.lst [.int 0,.int ((Stencil.whole s.data t).length:Int)]) hl2;have sz:=(s1.trans s2).trans s3;exact k _ x l2 (G.same sz) (EUp.of sz) af
def rI(s:State)(f n:Nat):List Int:=match s.ready with
 |none=>[-1]
 |some t=>((((Stencil.whole s.data t).drop f).take (min n 4096)).length:Int)::i8 (((Stencil.whole s.data t).drop f).take (min n 4096))
def Hy(c:Cs):Sp:=λvs H Q _=>∃(e:Addr)(x:SX)(s:State)(f n:Nat),vs=[.ref e,dQ f,dQ n]∧bQ c H e x s∧Done c e x H s (rI s f n) Q
theorem Gn(b:Stencil.Bytes)(k:Nat):i8 (b.drop k)=(i8 b).drop k:=by unfold i8;rw[List.map_drop]
theorem Gm(b:Stencil.Bytes)(k:Nat):i8 (b.take k)=(i8 b).take k:=by unfold i8;rw[List.map_take]
theorem lu(T:Txt K mg c):bU P w K mg base c.Engine "answer_render" ["self","from_place","count"] 5 (Hy c):=by
 refine T.gj.has (k:=4) fj (λvs H Q E h=>?_) (λfa cdv A outer sh0 H vs Q E hr h=>?_)
 ·obtain⟨e,x,s,f,n,rfl,_⟩:=h;rfl
 ·obtain⟨e,x,s,f,n,rfl,G,k⟩:=h;obtain⟨dx,pcv,hself,hpv⟩:=G.self;unfold rI at k;refine⟨_,(ag (aP (mi (dk (pm0 (iD T) hr nox (pv 0)))) (ah (ay (aU (aa (dN cf aA) ai)))) aO) (ag (aI (i:=3) fj.nd rfl (Or.inl rfl) (pf (AN T) hr nox (aa (pm0 (fZ T) hr nox (pv 0)) (aa (pv 1) (aa (aK (Di rfl) (by rfl) T.G9 PyProof.Rows.boot_min (aa (pv 2) (aa (pg T.lH) ai))) ai))))) (ah (ay (eM yw (aU (aa (aK aD (by rfl) T.b8 PySem.boot_len (aa (pv 3) ai)) ai)) (pv 3)))))),?_⟩
  try dsimp only[aM]
  walk_at"rd";refine bP hself ?_ rfl;walk_at"rd";refine⟨e,x,s,rfl,G,?_⟩;cases hr0:s.ready with
  |none=>
   rw[hr0]at k;refine bR ?_;show if(!false)=true then _ else _
   refine A7 ?_;walk_at"rd";refine⟨by show 1≤sizeLine;decide,λl hl=>?_⟩
   have s3:=ao (o:=.lst [.int (-1)]) hl;exact k _ x l (G.same s3) (EUp.of s3) af
  |some t=>
   rw[hr0]at k;refine bR ?_;show if(!true)=true then _ else _
   refine v7 ?_;walk_at"rd";refine bP hself ?_ rfl;walk_at"rd";refine⟨e,x,s,t,rfl,G,vB hr0,λH1 l R s1 hR hfl hz=>?_⟩;walk_at"rd";refine⟨_,_,rfl,?_⟩;have emin:(if(4096:Int)<(n:Int)then(4096:Int)else(n:Int))=((min n 4096:Nat):Int):=by
    split<;>omega
   rw[emin];walk_at"rd";refine⟨l,R,f,min n 4096,rfl,hR,Nat.min_le_right _ _,λH2 p s2 hp hd=>?_⟩;rw[Gz,hfl,←Gn,←Gm]at hd;dsimp only at k
   generalize hB:((Stencil.whole s.data t).drop f).take (min n 4096)=B at hd k
   have hBl:B.length≤4096:=by
    rw[←hB,List.length_take];omega
   walk_at"rd";refine⟨p,_,rfl,.inl (SqL.of hd),?_⟩;rw[List.length_map,Sp.aQ];walk_at"rd";refine⟨by show 1≤sizeLine;decide,λp2 hp2=>?_⟩
   have s3:=ao (o:=.lst [.int (B.length:Int)]) hp2;walk_at"rd";refine BM af (s3 _ _ hd) (by rw[List.length_map,Sp.aQ];exact Nat.le_trans (show 1+B.length≤4097 by omega) (by decide)) λp3 hp3=>?_
   have s4:=ao (o:=.lst ([.int (B.length:Int)]++(i8 B).map V.int)) hp3;have sz:=((s1.trans s2).trans s3).trans s4;exact k _ x p3 (G.same sz) (EUp.of sz) af
def sj(s:State)(i:Nat):List Int:=match s.tmpl with
 |none=>[-1]
 |some t=>match(Stencil.holes .text t)[i]? with
  |some h=>((h.2:Nat):Int)::(h.1.length:Int)::i8 h.1
  |none=>[0]
def HG(c:Cs):Sp:=λvs H Q _=>∃(e:Addr)(x:SX)(s:State)(i:Nat),vs=[.ref e,dQ i]∧bQ c H e x s∧Done c e x H s (sj s i) Q
theorem nA(T:Txt K mg c):bU P w K mg base c.Engine "answer_hole" ["self","number"] 2 (HG c):=by
 refine T.iI.has (k:=1) dj (λvs H Q E h=>?_) (λfa cdv A outer sh0 H vs Q E hr h=>?_)
 ·obtain⟨e,x,s,i,rfl,_⟩:=h;rfl
 ·obtain⟨e,x,s,i,rfl,G,k⟩:=h;obtain⟨dx,pcv,hself,hpv⟩:=G.self;unfold sj at k;refine⟨_,(ag (aP (n8 (Iw (ak (pv 0) rfl))) (ah (ay (aU (aa (dN cf aA) ai)))) aO) (ag (aI (i:=2) dj.nd rfl (Or.inl rfl) (pf (zE T) hr nox (aa (ak (pv 0) rfl) ai))) (ag (aP (az BV (pv 1) (aK aD (by rfl) T.b8 PySem.boot_len (aa (pv 2) ai)) (aB _)) (ah (ay (aU (aa aA ai)))) aO) (ag (aI (i:=3) dj.nd rfl (Or.inl rfl) (dz bD (pv 2) (pv 1) (λ_ _=>rfl))) (ah (ay (eM yw (aU (aa (ak (pv 3) rfl) (aa (aK aD (by rfl) T.b8 PySem.boot_len (aa (ak (pv 3) rfl) ai)) ai))) (ak (pv 3) rfl)))))))),?_⟩
  try dsimp only[aM]
  unfold dQ;walk_at"rd";refine d8 T hself ?_;cases ht:s.tmpl with
  |none=>
   rw[ht]at hpv k;obtain rfl:pcv=.non:=hpv;refine bR (ite_true ?_);walk_at"rd";refine⟨by show 1≤sizeLine;decide,λl hl=>?_⟩
   have s3:=ao (o:=.lst [.int (-1)]) hl;exact k _ x l (G.same s3) (EUp.of s3) af
  |some t=>
   rw[ht]at hpv k;dsimp only at k;obtain⟨pl,as,ps,rfl,P,TM,ho⟩:=hpv;refine bR (ite_false ?_);walk_at"rd";refine d8 T hself ?_;walk_at"rd";refine⟨pl,as,ps,rfl,P,TM.few,λH1 l as1 s1 P1=>?_⟩;have hl:=congrArg List.length TM.holes;rw[List.length_map,List.length_map]at hl;walk_at"rd";refine⟨l,_,rfl,.inl (SqL.of P1.lst),?_⟩;rw[List.length_map,P1.each.len,hl];refine uO (bR ?_);refine cj (λhb2=>?_) (λhb2=>?_)
   ·rw[decide_eq_true_eq]at hb2;rw[List.getElem?_eq_none (by omega)]at k
    walk_at"rd";refine⟨by show 1≤sizeLine;decide,λl2 hl2=>?_⟩
    have s3:=ao (o:=.lst [.int 0]) hl2;have sz:=s1.trans s3;exact k _ x l2 (G.same sz) (EUp.of sz) af
   ·rw[decide_eq_false_iff_not]at hb2;have hi:i<(Stencil.holes .text t).length:=by omega
    have hv:(Stencil.holes .text t)[i]?=some (Stencil.holes .text t)[i]:=List.getElem?_eq_getElem hi;rw[hv]at k;dsimp only at k;obtain⟨p,hp⟩:∃p,(ps.filter λp=>decide (p.aZ=2))[i]?=some p:=⟨_,List.getElem?_eq_getElem (by rw[hl];exact hi)⟩
    have hpi:(p.kind,p.row)=(some (((Stencil.holes .text t)[i].2:Nat):Int),i8 (Stencil.holes .text t)[i].1):=by
     have:=congrArg (λL=>L[i]?) TM.holes;rw[List.getElem?_map,List.getElem?_map,hp,hv]at this;exact Option.some.inj this
    injection hpi with hk1 hk2
    obtain⟨q,hq,⟨d1,e1⟩,e2,e3⟩:=P1.each.get' hp;unfold mQ at e1;rw[hk1]at e1;rw[hk2]at e2;walk_at"rd";refine⟨l,_,_,.ref q.a,rfl,rfl,SqL.of P1.lst,c6 (j:=i) (by rw[List.getElem?_map,hq];rfl),?_⟩
    walk_at"rd";refine pY T e1 ?_;walk_at"rd";refine l6 T e1 ?_;walk_at"rd";refine⟨q.ra,_,rfl,.inl (SqL.of e2),?_⟩;rw[List.length_map,Sp.aQ];walk_at"rd";refine⟨by show 2≤sizeLine;decide,λp2 hp2=>?_⟩
    have s2:=ao (o:=.lst [.int (((Stencil.holes .text t)[i].2:Nat):Int),.int ((Stencil.holes .text t)[i].1.length:Int)]) hp2;walk_at"rd";refine l6 T (s2 _ _ e1) ?_;refine BM af (s2 _ _ e2) (by
     rw[List.length_map,Sp.aQ];have h5:=TM.small p (List.mem_filter.mp (List.mem_of_getElem? hp)).1;rw[hk2,Sp.aQ]at h5;exact Nat.le_trans (show 2+(Stencil.holes .text t)[i].1.length≤5002 by omega) (by decide)) λp3 hp3=>?_
    have s3:=ao (o:=.lst ([.int (((Stencil.holes .text t)[i].2:Nat):Int),.int ((Stencil.holes .text t)[i].1.length:Int)]++(i8 (Stencil.holes .text t)[i].1).map V.int)) hp3;have sz:=(s1.trans s2).trans s3;exact k _ x p3 (G.same sz) (EUp.of sz) af
end
section
open Sp (i8 ans)
open Wqatae (State says tells)
def kD(c:Cs)(H:Hp)(r ca:Addr)(k:Nat):Prop:=∃dx,H r=some (.ins c.CallReader dx (bu (.ref ca) (.int (k:Nat))))
def KI(c:Cs):Sp:=λvs H Q _=>∃(r dx ca:Addr)(H0:Hp),vs=[.ref r,.ref ca]∧H=upd H0 r (.ins c.CallReader dx [])∧Q .non (upd H0 r (.ins c.CallReader dx (bu (.ref ca) (.int 0))))
theorem qT(T:Txt K mg c):sM P w K mg base c.CallReader "CallReader" ["self","calls"] 1 (KI c):=by
 refine T.c0.has (k:=0) qI (λvs H Q E h=>?_) (λfa cdv A outer sh0 H vs Q E hr h=>?_)
 ·obtain⟨r,dx,ca,H0,rfl,_⟩:=h;rfl
 ·obtain⟨r,dx,ca,H0,rfl,rfl,k⟩:=h;refine⟨_,(ag (aT (pv 0) (pv 1) rfl) (ah (aT (pv 0) aA rfl))),?_⟩
  try dsimp only[aM]
  walk_at"rd";refine wi T.c0.cl T.jD (by show 0<1000;decide) ?_
  walk_at"rd";refine wi T.c0.cl T.fe (by show 1<1000;decide) ?_
  exact k
def HJ(c:Cs)(K:PySem.W.Frag):Sp:=λvs H Q _=>∃(r ca:Addr)(k:Nat)(l:List Int),vs=[.ref r]∧kD c H r ca k∧SqL K H ca (l.map V.int)∧Q (.bl (decide (l.length≤k))) H
theorem nB(T:Txt K mg c):bU P w K mg base c.CallReader "is_done" ["self"] 1 (HJ c K):=by
 refine T.iJ.has (k:=0) nc (λvs H Q E h=>?_) (λfa cdv A outer sh0 H vs Q E hr h=>?_)
 ·obtain⟨r,ca,k,l,rfl,_⟩:=h;rfl
 ·obtain⟨r,ca,n,l,rfl,⟨dx,hr0⟩,hl,k⟩:=h;refine⟨_,(ah (ay (bK BV (ak (pv 0) rfl) (aK aD (by rfl) T.b8 PySem.boot_len (aa (ak (pv 0) rfl) ai)) (aB _)))),?_⟩
  try dsimp only[aM]
  walk_at"rd";refine cK T hr0 ?_;walk_at"rd";refine eB T hr0 ?_;walk_at"rd";refine⟨ca,_,rfl,.inl hl,?_⟩;rw[List.length_map];walk_at"rd";rw[show decide (((l.length:Nat):Int)≤(n:Int))=decide (l.length≤n)from by rw[Bool.eq_iff_iff,decide_eq_true_eq,decide_eq_true_eq];omega]
  exact k
def JH(c:Cs)(K:PySem.W.Frag):Sp:=λvs H Q _=>∃(r ca:Addr)(k:Nat)(l:List Int)(z:Int),vs=[.ref r]∧kD c H r ca k∧SqL K H ca (l.map V.int)∧l[k]?=some z∧∀H',kD c H' r ca (k+1)→Fr (λb=>b=r) H H'→Q (.int z) H'
theorem a8(T:Txt K mg c):bU P w K mg base c.CallReader "read_number" ["self"] 1 (JH c K):=by
 refine T.eR.has (k:=0) ef (λvs H Q E h=>?_) (λfa cdv A outer sh0 H vs Q E hr h=>?_)
 ·obtain⟨r,ca,k,l,z,rfl,_⟩:=h;rfl
 ·obtain⟨r,ca,n,l,z,rfl,⟨dx,hr0⟩,hl,hz,k⟩:=h;refine⟨_,(ag (aI (i:=1) ef.nd rfl (Or.inl rfl) (dz bD (ak (pv 0) rfl) (ak (pv 0) rfl) (λ_ _=>rfl))) (ag (bN (pv 0) aA gk) (ah (ay (pv 1))))),?_⟩
  try dsimp only[aM]
  walk_at"rd";refine eB T hr0 ?_;walk_at"rd";refine cK T hr0 ?_;refine⟨ca,_,_,.int z,rfl,rfl,hl,c6 (j:=n) (by rw[List.getElem?_map,hz];rfl),?_⟩
  refine cb (aS ?_);refine i6 T hr0 rfl ⟨1,rfl,hr0,?_⟩ (λR S h q=>h _ _ q);walk_at"rd";exact k _ ⟨dx,by rw[af];rfl⟩ (ff rfl)
def Hw(c:Cs)(K:PySem.W.Frag):Sp:=λvs H Q _=>∃(r ca:Addr)(k m:Nat)(l:List Int),vs=[.ref r]∧kD c H r ca k∧SqL K H ca (l.map V.int)∧l[k]?=some (m:Int)∧∀H' p,kD c H' r ca (k+1+m)→Fr (λb=>b=r) H H'→H p=none→H' p=some (.lst ((sub l (k+1) (k+1+m)).map V.int))→Q (.ref p) H'
theorem SqL.fr{K:PySem.W.Frag}{H H':Hp}{a r C dx:Addr}{fs:List (Str×V)}{xs:List V}(hr0:H r=some (.ins C dx fs))(f:Fr (λb=>b=r) H H')(h:SqL K H a xs):SqL K H' a xs:=by
 rcases h with(h|⟨o,h⟩)|h
 ·exact .inl (.inl (f _ _ h (aF h hr0 (by intro z;cases z))))
 ·exact .inl (.inr ⟨o,f _ _ h (aF h hr0 (by intro z;cases z))⟩)
 ·exact .inr h
theorem bp(T:Txt K mg c):bU P w K mg base c.CallReader "read_row" ["self"] 2 (Hw c K):=by
 refine T.gX.has (k:=1) cZ (λvs H Q E h=>?_) (λfa cdv A outer sh0 H vs Q E hr h=>?_)
 ·obtain⟨r,ca,k,m,l,rfl,_⟩:=h;rfl
 ·obtain⟨r,ca,n,m,l,rfl,hr0,hl,hz,k⟩:=h;obtain⟨dx,hr1⟩:=id hr0;refine⟨_,(ag (aI (i:=1) cZ.nd rfl (Or.inl rfl) (pm0 (a8 T) hr nox (pv 0))) (ag (aI (i:=2) cZ.nd rfl (Or.inl rfl) (iA lQ (ak (pv 0) rfl) (dy (ak (pv 0) rfl)) (dy (eM iR (ak (pv 0) rfl) (pv 1))))) (ag (bN (pv 0) (pv 1) gk) (ah (ay (pv 2)))))),?_⟩
  try dsimp only[aM]
  walk_at"rd";refine bb hr1 ?_ rfl;walk_at"rd";refine⟨r,ca,n,l,_,rfl,hr0,hl,hz,λH1⟨d1,h1⟩f1=>?_⟩;have hl1:=SqL.fr hr1 f1 hl;walk_at"rd";refine eB T h1 ?_;walk_at"rd";refine cK T h1 ?_;walk_at"rd";refine cK T h1 ?_;walk_at"rd";refine⟨ca,_,rfl,hl1,λp hp=>?_⟩;rw[show((n+1:Nat):Int)+(m:Int)=((n+1+m:Nat):Int)by omega,oN]
  have s2:=ao (o:=.lst ((sub l (n+1) (n+1+m)).map V.int)) hp;have h2:=s2 _ _ h1;refine cb (aS ?_);refine i6 T h2 rfl ?_ (λR S h q=>by obtain⟨v,e,q⟩:=q;exact⟨v,e,h _ _ q⟩)
  refine⟨.int (m:Int),rfl,m,rfl,h2,?_⟩;walk_at"rd";have npr:p≠r:=λz=>by rw[z,h1]at hp;cases hp
  have hp0:H p=none:=by
   cases e:H p with
   |none=>rfl
   |some o=>rw[f1 _ _ e npr]at hp;cases hp
  refine k _ p ⟨d1,?_⟩ ((f1.trans (Fr.of s2)).trans (ff rfl)) hp0 ?_
  ·rw[af,show((n+1:Nat):Int)+(m:Int)=((n+1+m:Nat):Int)by omega]
  ·rw[ae npr,af];rfl
end
section
open Sp (i8 ans ez row)
open Wqatae (State says tells)
abbrev WC:=Wqatae.Call
theorem vm(s:State)(b:Stencil.Bytes):(Wqatae.step s (.compile b)).1=(mC s b).1∧ans (Wqatae.step s (.compile b)).2=(mC s b).2:=by
 show(Wqatae.compiled s b).1=_∧ans (Wqatae.compiled s b).2=_;unfold Wqatae.compiled mC Wqatae.TEMPLATE
 split
 ·exact⟨rfl,rfl⟩
 ·cases Stencil.readTemplate b<;>exact⟨rfl,rfl⟩
theorem DD(s:State)(n v:Stencil.Bytes):(Wqatae.step s (.put n v)).1={s with data:=(mh s.data n v).1}∧ans (Wqatae.step s (.put n v)).2=[(mh s.data n v).2]:=by
 show(Wqatae.putIn s n v).1=_∧ans (Wqatae.putIn s n v).2=_;unfold Wqatae.putIn mh Wqatae.VALUE
 split
 ·exact⟨rfl,rfl⟩
 ·split<;>exact⟨rfl,rfl⟩
theorem BD(s:State)(n:Stencil.Bytes):(Wqatae.step s (.openItem n)).1={s with data:=(jb s.data n).1}∧ans (Wqatae.step s (.openItem n)).2=[(jb s.data n).2]:=by
 show(Wqatae.openIn s n).1=_∧ans (Wqatae.openIn s n).2=_;unfold Wqatae.openIn jb Stencil.SECTIONS
 split
 ·exact⟨rfl,rfl⟩
 ·split<;>exact⟨rfl,rfl⟩
theorem zi(s:State):(Wqatae.step s .closeItem).1={s with data:=(gw s.data).1}∧ans (Wqatae.step s .closeItem).2=[(gw s.data).2]:=by
 show(match s.data.opened with|[]=>(s,says (-1))|_::r=>({s with data:={s.data with opened:=r}},says 0)).1=_∧ans (match s.data.opened with|[]=>(s,says (-1))|_::r=>({s with data:={s.data with opened:=r}},says 0)).2=_
 unfold gw;cases s.data.opened<;>exact⟨rfl,rfl⟩
theorem vn(b:Stencil.Bytes):(Wqatae.shown b).map (λ(n:Nat)=>(n:Int))=i8 b:=by
 unfold Wqatae.shown i8;rw[List.map_map];rfl
theorem BC(s:State):(Wqatae.step s .size).1=s∧ans (Wqatae.step s .size).2=oW s:=by
 refine⟨rfl,?_⟩;show ans (match s.ready with|none=>says (-1)|some t=>tells 0 [(Stencil.whole s.data t).length])=_
 unfold oW;cases s.ready<;>rfl
theorem xj(s:State)(f n:Nat):(Wqatae.step s (.render f n)).1=s∧ans (Wqatae.step s (.render f n)).2=rI s f n:=by
 refine⟨rfl,?_⟩;show ans (match s.ready with|none=>says (-1)|some t=>let b:=((Stencil.whole s.data t).drop f).take (min n Wqatae.PIECE);tells (b.length:Nat) (Wqatae.shown b))=_
 unfold rI;cases s.ready with
 |none=>rfl
 |some t=>
  show _::(Wqatae.shown _).map _=_;rw[vn];rfl
theorem BE(s:State)(i:Nat):(Wqatae.step s (.hole i)).1=s∧ans (Wqatae.step s (.hole i)).2=sj s i:=by
 refine⟨rfl,?_⟩;show ans (match s.tmpl with|none=>says (-1)|some t=>match(Stencil.holes .text t)[i]? with|some x=>tells (x.2:Nat) (x.1.length::Wqatae.shown x.1)|none=>says 0)=_
 unfold sj;cases s.tmpl with
 |none=>rfl
 |some t=>
  dsimp only;cases(Stencil.holes .text t)[i]? with
  |none=>rfl
  |some h=>
   show _::_::(Wqatae.shown _).map _=_;rw[vn];rfl
theorem zj(s:State)(b:Stencil.Bytes):(Wqatae.step s (.check b)).1=s∧ans (Wqatae.step s (.check b)).2=wz b:=by
 refine⟨rfl,?_⟩;show ans (if Wqatae.MARKUP<b.length then says (-2)else(match Stencil.markFault .text b 0 with|none=>says 0|some k=>tells (-1) [k]))=_
 unfold wz Wqatae.MARKUP
 split
 ·rfl
 ·cases Stencil.markFault .text b 0<;>rfl
theorem zh(s:State)(i:Nat)(b:Stencil.Bytes):(Wqatae.step s (.event i b)).1=s∧ans (Wqatae.step s (.event i b)).2=Ab i b:=by
 refine⟨rfl,?_⟩;show ans (if Wqatae.MARKUP<b.length then says (-2)else(match Stencil.eventsOf b with|none=>says (-1)|some l=>match l[i]? with|some v=>tells (Stencil.kindOf v) ((Stencil.saidBy v).length::Wqatae.shown (Stencil.saidBy v))|none=>says 0))=_
 unfold Ab Wqatae.MARKUP
 split
 ·rfl
 ·cases Stencil.eventsOf b with
  |none=>rfl
  |some l=>
   dsimp only;cases l[i]? with
   |none=>rfl
   |some v=>
    show _::_::(Wqatae.shown _).map _=_;rw[vn];rfl
theorem Gs{H H':Hp}{r:Addr}{o:HO}(f:Fr (λb=>b=r) H H')(h:H' r=some o):aE (upd H r o) H':=λb u e=>by
 by_cases z:b=r
 ·subst z;rw[af]at e;rw[h];exact e
 ·rw[ae z]at e;exact f _ _ e z
theorem bQ.rdr{H H':Hp}{e r ca dx:Addr}{x:SX}{s:State}{v:V}{k:Nat}(G:bQ c H e x s)(hr0:H r=some (.ins c.CallReader dx (bu (.ref ca) v)))(f:Fr (λb=>b=r) H H')(hr':kD c H' r ca k):bQ c H' e x s:=by
 obtain⟨⟨de,pcv,h1,h2⟩,h3⟩:=G;obtain⟨d',e'⟩:=hr';have sm:=Gs f e';exact bQ.same ⟨⟨de,pcv,by rw[ae (aF h1 hr0 (Ne.symm (dW "store" (v:=.ref x.s) rfl rfl)))];exact h1,h2.off hr0 rfl⟩,h3.off hr0 rfl rfl rfl⟩ sm
def TF(e r:Addr)(x:SX):Addr→Prop:=λb=>b=e∨b=r∨b∈x.O
structure Ret(c:Cs)(e r ca:Addr)(x:SX)(H:Hp)(s':State)(k:Nat)(out:List Int)(H':Hp)(x':SX)(p:Addr):Prop where
 eng:bQ c H' e x' s'
 rdr:kD c H' r ca k
 fr:Fr (TF e r x) H H'
 new:∀b∈x'.O,b∈x.O∨H b=none
 out:H' p=some (.lst (out.map V.int))
theorem kI{H H1 H':Hp}{e r ca p:Addr}{x x':SX}{s s':State}{k:Nat}{out:List Int}(G1:bQ c H1 e x s)(R1:kD c H1 r ca k)(f1:Fr (λb=>b=r) H H1)(G':bQ c H' e x' s')(u:EUp e x H1 x' H')(ho:H' p=some (.lst (out.map V.int))):Ret c e r ca x H s' k out H' x' p:=by
 obtain⟨d1,h1⟩:=R1;obtain⟨de,pcv,he1,_⟩:=G1.self;have nre:r≠e:=aF h1 he1 (Ne.symm (dW "calls" (v:=.ref ca) rfl rfl));refine⟨G',⟨d1,u.fr _ _ h1 ?_⟩,λb o q n=>?_,λb hb=>?_,ho⟩
 ·rintro(z|z)
  ·exact nre z
  ·exact u6 G1.store h1 rfl z
 ·have n1:b≠r:=λz=>n (.inr (.inl z));exact u.fr _ _ (f1 _ _ q n1) (by rintro(z|z);exact n (.inl z);exact n (.inr (.inr z)))
 ·rcases u.new b hb with z|z
  ·exact .inl z
  ·right
   cases q:H b with
   |none=>rfl
   |some o=>
    by_cases n1:b=r
    ·rw[n1,h1]at z;cases z
    ·rw[f1 _ _ q n1]at z;cases z
theorem lF{l t:List Int}{k:Nat}{z:Int}(h:l.drop k=z::t):l[k]?=some z∧l.drop (k+1)=t:=by
 have hk:k<l.length:=by
  rcases Nat.lt_or_ge k l.length with q|q
  ·exact q
  ·rw[List.drop_eq_nil_of_le q]at h;cases h
 rw[List.drop_eq_getElem_cons hk]at h;injection h with h1 h2
 exact⟨by rw[List.getElem?_eq_getElem hk,h1],h2⟩
theorem oY{l t:List Int}{k:Nat}{b:Stencil.Bytes}(h:l.drop k=row b++t):l[k]?=some ((b.length:Nat):Int)∧sub l (k+1) (k+1+b.length)=i8 b∧l.drop (k+1+b.length)=t:=by
 obtain⟨h1,h2⟩:=lF (show l.drop k=((b.length:Nat):Int)::(i8 b++t)from h);refine⟨h1,?_,?_⟩
 ·unfold sub;rw[h2,show k+1+b.length-(k+1)=(i8 b).length by rw[Sp.aQ];omega,List.take_left]
 ·rw[←List.drop_drop,h2,←Sp.aQ b,List.drop_left]
theorem DG{H H':Hp}{e r a C dx C' dx':Addr}{x:SX}{d:SD}{fs fs':List (Str×V)}{l:List Int}(S:aH c H x d)(he:H e=some (.ins C dx fs))(hr0:H r=some (.ins C' dx' fs'))(f:Fr (TF e r x) H H')(h:SqL K H a (l.map V.int)):SqL K H' a (l.map V.int):=by
 rcases h with(h|⟨o,h⟩)|h
 ·refine .inl (.inl (f _ _ h ?_));rintro(z|z|z)
  ·exact aF h he (by intro z;cases z) z
  ·exact aF h hr0 (by intro z;cases z) z
  ·exact zF S h z
 ·refine .inl (.inr ⟨o,f _ _ h ?_⟩);rintro(z|z|z)
  ·exact aF h he (by intro z;cases z) z
  ·exact aF h hr0 (by intro z;cases z) z
  ·rcases oh S z with⟨d1,f1,v,e1,e2⟩|⟨y,ys,e1⟩|⟨k,e1⟩<;>(rw[h]at e1;cases e1)
 ·exact .inr h
def code:WC→Int
 |.compile _=>0
 |.clear=>1
 |.put _ _=>2
 |.openItem _=>3
 |.closeItem=>4
 |.size=>5
 |.render _ _=>6
 |.hole _=>7
 |.check _=>8
 |.event _ _=>9
theorem xK(cl:WC):ez cl=code cl::(ez cl).tail:=by cases cl<;>rfl
structure Jl(c:Cs)(K:PySem.W.Frag)(H:Hp)(e r ca:Addr)(x:SX)(s:State)(k:Nat)(l:List Int):Prop where
 eng:bQ c H e x s
 rdr:kD c H r ca k
 lst:SqL K H ca (l.map V.int)
 few:l.length≤40000
def Aw(c:Cs)(K:PySem.W.Frag)(f:WC→List Int)(vs0:WC→List V)(ok:WC→Prop):Sp:=λvs H Q _=>∃(e r ca:Addr)(x:SX)(s:State)(k:Nat)(l t:List Int)(cl:WC),vs=.ref e::.ref r::vs0 cl∧Jl c K H e r ca x s k l∧ok cl∧l.drop k=f cl++t∧
 ∀H' x' p,Ret c e r ca x H (Wqatae.step s cl).1 (k+(f cl).length) (ans (Wqatae.step s cl).2) H' x' p→Q (.ref p) H'
def IJ(cl:WC):Prop:=code cl<5
theorem lX(b:Stencil.Bytes):(row b).length=b.length+1:=by unfold row;rw[List.length_cons,Sp.aQ]
theorem yZ{l t:List Int}{k:Nat}{b:Stencil.Bytes}(hf:l.length≤40000)(h:l.drop k=row b++t):b.length≤40000:=by
 have:=congrArg List.length h;rw[List.length_drop,List.length_append,lX]at this;omega
theorem rN(T:Txt K mg c):eU P w K mg base "answer_telling" ["engine","reader","call"] 13 (Aw c K (λcl=>(ez cl).tail) (λcl=>[.int (code cl)]) IJ):=by
 refine T.lE.has (k:=12) fQ (λvs H Q E h=>?_) (λfa cdv A outer sh0 H vs Q E hr h=>?_)
 ·obtain⟨e,r,ca,x,s,k,l,t,cl,rfl,_⟩:=h;rfl
 ·obtain⟨e,r,ca,x,s,n,l,t,cl,rfl,A0,hok,hd,k⟩:=h;obtain⟨G,R,hl,hf⟩:=A0;obtain⟨de,pcv,he,_⟩:=G.self;obtain⟨dr,hr0⟩:=id R;dsimp only at hd k;refine⟨_,(ag (aP (az bh (pv 2) (pg T.jS) (aB _)) (ah (ay (pm (kR T) hr nox (pv 0) (aa (pm0 (bp T) hr nox (pv 1)) ai)))) aO) (ag (aP (az bh (pv 2) (pg T.mF) (aB _)) (ah (ay (pm0 (mx T) hr nox (pv 0)))) aO) (ag (aP (az bh (pv 2) (pg T.rg) (aB _)) (ag (aI (i:=3) fQ.nd rfl (Or.inl rfl) (pm0 (bp T) hr nox (pv 1))) (ag (aI (i:=4) fQ.nd rfl (Or.inl rfl) (pm0 (bp T) hr nox (pv 1))) (ah (ay (pm (oq T) hr nox (pv 0) (aa (pv 3) (aa (pv 4) ai))))))) aO) (ag (aP (az bh (pv 2) (pg T.oR) (aB _)) (ah (ay (pm (nv T) hr nox (pv 0) (aa (pm0 (bp T) hr nox (pv 1)) ai)))) aO) (ah (ay (pm0 (mw T) hr nox (pv 0)))))))),?_⟩
  try dsimp only[aM]
  cases cl with
  |compile b=>
   rw[Sp.yO]at hd k;obtain⟨g1,g2,g3⟩:=oY hd;have hb:=yZ hf hd;refine aS (bC (br (b6 (bZ (bj rfl) eL)) (nE ?_)));walk_at"rd";refine bP he ?_ rfl;walk_at"rd";refine bb hr0 ?_ rfl;walk_at"rd";refine⟨r,ca,n,_,l,rfl,R,hl,g1,λH1 p R1 f1 hp0 hp=>?_⟩;rw[g2]at hp;have G1:=G.rdr hr0 f1 R1;walk_at"rd";refine⟨e,p,x,s,b,rfl,G1,hp,λH' x' q G' u ho=>?_⟩;have st:=vm s b;rw[st.1,st.2,List.tail_cons,lX]at k;have ek:n+(b.length+1)=n+1+b.length:=by omega
   rw[ek]at k;exact k H' x' q (kI G1 R1 f1 G' u ho)
  |clear=>
   refine aS (bC (br (b6 (bZ (bj rfl) eL)) (gB ?_)));refine bw (cb (aS (bC (br (b6 (bZ (bj rfl) eL)) (nE ?_)))));walk_at"rd";refine bP he ?_ rfl;walk_at"rd";refine⟨e,x,s,rfl,G,λH' x' q G' u ho=>?_⟩;exact k H' x' q (kI G R (Fr.refl _) G' u ho)
  |put nm v=>
   rw[Sp.EM]at hd k;rw[List.tail_cons,List.append_assoc]at hd;obtain⟨g1,g2,g3⟩:=oY hd;obtain⟨g4,g5,g6⟩:=oY g3;have hb:=yZ hf hd;refine aS (bC (br (b6 (bZ (bj rfl) eL)) (gB ?_)));refine bw (cb (aS (bC (br (b6 (bZ (bj rfl) eL)) (gB ?_)))));refine bw (cb (aS (bC (br (b6 (bZ (bj rfl) eL)) (nE ?_)))));walk_at"rd";refine bb hr0 ?_ rfl;walk_at"rd";refine⟨r,ca,n,_,l,rfl,R,hl,g1,λH1 p R1 f1 hp0 hp=>?_⟩;rw[g2]at hp;obtain⟨d1,h1⟩:=id R1;have hl1:=SqL.fr hr0 f1 hl;walk_at"rd";refine bb h1 ?_ rfl;walk_at"rd";refine⟨r,ca,_,_,l,rfl,R1,hl1,g4,λH2 p2 R2 f2 hp02 hp2=>?_⟩;rw[g5]at hp2;have f12:=f1.trans f2;have G2:=G.rdr hr0 f12 R2;obtain⟨de2,pcv2,he2,_⟩:=G2.self;walk_at"rd";refine bP he2 ?_ rfl;walk_at"rd";refine⟨e,p,p2,x,s,nm,v,rfl,G2,f2 _ _ hp (aF hp h1 (by intro z;cases z)),hp2,by omega,λH' x' q G' u ho=>?_⟩
   have st:=DD s nm v;rw[st.1,st.2,List.tail_cons,List.length_append,lX,lX]at k;have ek:n+(nm.length+1+(v.length+1))=n+1+nm.length+1+v.length:=by omega
   rw[ek]at k;exact k H' x' q (kI G2 R2 f12 G' u ho)
  |openItem nm=>
   rw[Sp.Dd]at hd k;obtain⟨g1,g2,g3⟩:=oY hd;have hb:=yZ hf hd;refine aS (bC (br (b6 (bZ (bj rfl) eL)) (gB ?_)));refine bw (cb (aS (bC (br (b6 (bZ (bj rfl) eL)) (gB ?_)))));refine bw (cb (aS (bC (br (b6 (bZ (bj rfl) eL)) (gB ?_)))));refine bw (cb (aS (bC (br (b6 (bZ (bj rfl) eL)) (nE ?_)))));walk_at"rd";refine bP he ?_ rfl;walk_at"rd";refine bb hr0 ?_ rfl;walk_at"rd";refine⟨r,ca,n,_,l,rfl,R,hl,g1,λH1 p R1 f1 hp0 hp=>?_⟩;rw[g2]at hp;have G1:=G.rdr hr0 f1 R1;walk_at"rd";refine⟨e,p,x,s,nm,rfl,G1,hp,by omega,λH' x' q G' u ho=>?_⟩
   have st:=BD s nm;rw[st.1,st.2,List.tail_cons,lX]at k;have ek:n+(nm.length+1)=n+1+nm.length:=by omega
   rw[ek]at k;exact k H' x' q (kI G1 R1 f1 G' u ho)
  |closeItem=>
   refine aS (bC (br (b6 (bZ (bj rfl) eL)) (gB ?_)));refine bw (cb (aS (bC (br (b6 (bZ (bj rfl) eL)) (gB ?_)))));refine bw (cb (aS (bC (br (b6 (bZ (bj rfl) eL)) (gB ?_)))));refine bw (cb (aS (bC (br (b6 (bZ (bj rfl) eL)) (gB ?_)))));walk_at"rd";refine bP he ?_ rfl;walk_at"rd";refine⟨e,x,s,rfl,G,λH' x' q G' u ho=>?_⟩;have st:=zi s;rw[st.1,st.2]at k;exact k H' x' q (kI G R (Fr.refl _) G' u ho)
  |size=>exact absurd (show(5:Int)<5 from hok) (by decide)
  |render f m=>exact absurd (show(6:Int)<5 from hok) (by decide)
  |hole i=>exact absurd (show(7:Int)<5 from hok) (by decide)
  |check b=>exact absurd (show(8:Int)<5 from hok) (by decide)
  |event i b=>exact absurd (show(9:Int)<5 from hok) (by decide)
end
section
open Sp (i8 ans ez row)
open Wqatae (State says tells)
def Kf(cl:WC):Prop:=5≤code cl
theorem tJ(T:Txt K mg c):eU P w K mg base "answer_asking" ["engine","reader","call"] 12 (Aw c K (λcl=>(ez cl).tail) (λcl=>[.int (code cl)]) Kf):=by
 refine T.mW.has (k:=11) d6 (λvs H Q E h=>?_) (λfa cdv A outer sh0 H vs Q E hr h=>?_)
 ·obtain⟨e,r,ca,x,s,k,l,t,cl,rfl,_⟩:=h;rfl
 ·obtain⟨e,r,ca,x,s,n,l,t,cl,rfl,A0,hok,hd,k⟩:=h;obtain⟨G,R,hl,hf⟩:=A0;obtain⟨de,pcv,he,_⟩:=G.self;obtain⟨dr,hr0⟩:=id R;dsimp only at hd k;refine⟨_,(ag (aP (az bh (pv 2) (pg T.uC) (aB _)) (ah (ay (pm0 (nk T) hr nox (pv 0)))) aO) (ag (aP (az bh (pv 2) (pg T.qv) (aB _)) (ag (aI (i:=3) d6.nd rfl (Or.inl rfl) (pm0 (a8 T) hr nox (pv 1))) (ag (aI (i:=4) d6.nd rfl (Or.inl rfl) (pm0 (a8 T) hr nox (pv 1))) (ah (ay (pm (lu T) hr nox (pv 0) (aa (pv 3) (aa (pv 4) ai))))))) aO) (ag (aP (az bh (pv 2) (pg T.uD) (aB _)) (ah (ay (pm (nA T) hr nox (pv 0) (aa (pm0 (a8 T) hr nox (pv 1)) ai)))) aO) (ag (aP (az bh (pv 2) (pg T.sG) (aB _)) (ah (ay (pm (my T) hr nox (pv 0) (aa (pm0 (bp T) hr nox (pv 1)) ai)))) aO) (ag (aP (az bh (pv 2) (pg T.sE) (aB _)) (ag (aI (i:=5) d6.nd rfl (Or.inl rfl) (pm0 (a8 T) hr nox (pv 1))) (ah (ay (pm (mv T) hr nox (pv 0) (aa (pv 5) (aa (pm0 (bp T) hr nox (pv 1)) ai)))))) aO) (ah D5)))))),?_⟩
  try dsimp only[aM]
  cases cl with
  |size=>
   refine aS (bC (br (b6 (bZ (bj rfl) eL)) (nE ?_)));walk_at"rd";refine bP he ?_ rfl;walk_at"rd";refine⟨e,x,s,rfl,G,λH' x' q G' u ho=>?_⟩;have st:=BC s;rw[st.1,st.2]at k;exact k H' x' q (kI G R (Fr.refl _) G' u ho)
  |render f m=>
   rw[Sp.z5]at hd k;obtain⟨g1,g2⟩:=lF (show l.drop n=(f:Int)::((m:Int)::t)from hd);obtain⟨g3,g4⟩:=lF g2;refine aS (bC (br (b6 (bZ (bj rfl) eL)) (gB ?_)));refine bw (cb (aS (bC (br (b6 (bZ (bj rfl) eL)) (nE ?_)))));walk_at"rd";refine bb hr0 ?_ rfl;walk_at"rd";refine⟨r,ca,n,l,_,rfl,R,hl,g1,λH1 R1 f1=>?_⟩;obtain⟨d1,h1⟩:=id R1;have hl1:=SqL.fr hr0 f1 hl;walk_at"rd";refine bb h1 ?_ rfl;walk_at"rd";refine⟨r,ca,_,l,_,rfl,R1,hl1,g3,λH2 R2 f2=>?_⟩;have f12:=f1.trans f2;have G2:=G.rdr hr0 f12 R2;obtain⟨de2,pcv2,he2,_⟩:=G2.self;walk_at"rd";refine bP he2 ?_ rfl;walk_at"rd";refine⟨e,x,s,f,m,rfl,G2,λH' x' q G' u ho=>?_⟩;have st:=xj s f m;rw[st.1,st.2]at k;exact k H' x' q (kI G2 R2 f12 G' u ho)
  |hole i=>
   rw[Sp.De]at hd k;obtain⟨g1,g2⟩:=lF (show l.drop n=(i:Int)::t from hd);refine aS (bC (br (b6 (bZ (bj rfl) eL)) (gB ?_)));refine bw (cb (aS (bC (br (b6 (bZ (bj rfl) eL)) (gB ?_)))));refine bw (cb (aS (bC (br (b6 (bZ (bj rfl) eL)) (nE ?_)))));walk_at"rd";refine bP he ?_ rfl;walk_at"rd";refine bb hr0 ?_ rfl;walk_at"rd";refine⟨r,ca,n,l,_,rfl,R,hl,g1,λH1 R1 f1=>?_⟩;have G1:=G.rdr hr0 f1 R1;walk_at"rd";refine⟨e,x,s,i,rfl,G1,λH' x' q G' u ho=>?_⟩;have st:=BE s i;rw[st.1,st.2]at k;exact k H' x' q (kI G1 R1 f1 G' u ho)
  |check b=>
   rw[Sp.Be]at hd k;obtain⟨g1,g2,g3⟩:=oY hd;refine aS (bC (br (b6 (bZ (bj rfl) eL)) (gB ?_)));refine bw (cb (aS (bC (br (b6 (bZ (bj rfl) eL)) (gB ?_)))));refine bw (cb (aS (bC (br (b6 (bZ (bj rfl) eL)) (gB ?_)))));refine bw (cb (aS (bC (br (b6 (bZ (bj rfl) eL)) (nE ?_)))));walk_at"rd";refine bP he ?_ rfl;walk_at"rd";refine bb hr0 ?_ rfl;walk_at"rd";refine⟨r,ca,n,_,l,rfl,R,hl,g1,λH1 p R1 f1 hp0 hp=>?_⟩;rw[g2]at hp;have G1:=G.rdr hr0 f1 R1;walk_at"rd";refine⟨e,p,x,s,b,rfl,G1,hp,λH' x' q G' u ho=>?_⟩;have st:=zj s b;rw[st.1,st.2,List.tail_cons,lX]at k;have ek:n+(b.length+1)=n+1+b.length:=by omega
   rw[ek]at k;exact k H' x' q (kI G1 R1 f1 G' u ho)
  |event i b=>
   rw[Sp.Bd]at hd k;obtain⟨g0,hd2⟩:=lF (show l.drop n=(i:Int)::(row b++t)from hd);obtain⟨g1,g2,g3⟩:=oY hd2;refine aS (bC (br (b6 (bZ (bj rfl) eL)) (gB ?_)));refine bw (cb (aS (bC (br (b6 (bZ (bj rfl) eL)) (gB ?_)))));refine bw (cb (aS (bC (br (b6 (bZ (bj rfl) eL)) (gB ?_)))));refine bw (cb (aS (bC (br (b6 (bZ (bj rfl) eL)) (gB ?_)))));refine bw (cb (aS (bC (br (b6 (bZ (bj rfl) eL)) (nE ?_)))));walk_at"rd";refine bb hr0 ?_ rfl;walk_at"rd";refine⟨r,ca,n,l,_,rfl,R,hl,g0,λH1 R1 f1=>?_⟩;obtain⟨d1,h1⟩:=id R1;have hl1:=SqL.fr hr0 f1 hl;have G1:=G.rdr hr0 f1 R1;obtain⟨de1,pcv1,he1,_⟩:=G1.self;walk_at"rd";refine bP he1 ?_ rfl;walk_at"rd";refine bb h1 ?_ rfl;walk_at"rd";refine⟨r,ca,_,_,l,rfl,R1,hl1,g1,λH2 p R2 f2 hp0 hp=>?_⟩;rw[g2]at hp;have f12:=f1.trans f2;have G2:=G.rdr hr0 f12 R2;walk_at"rd";refine⟨e,p,x,s,i,b,rfl,G2,hp,λH' x' q G' u ho=>?_⟩;have st:=zh s i b;rw[st.1,st.2,List.tail_cons,List.length_cons,lX]at k;have ek:n+(b.length+1+1)=n+1+1+b.length:=by omega
   rw[ek]at k;exact k H' x' q (kI G2 R2 f12 G' u ho)
  |compile b=>exact absurd (show(5:Int)≤0 from hok) (by decide)
  |clear=>exact absurd (show(5:Int)≤1 from hok) (by decide)
  |put nm v=>exact absurd (show(5:Int)≤2 from hok) (by decide)
  |openItem nm=>exact absurd (show(5:Int)≤3 from hok) (by decide)
  |closeItem=>exact absurd (show(5:Int)≤4 from hok) (by decide)
theorem Bj(cl:WC):[0,1,2,3,4].contains (code cl)=decide (code cl<5):=by cases cl<;>rfl
theorem vP(T:Txt K mg c):eU P w K mg base "answer_call" ["engine","reader"] 14 (Aw c K ez (λ_=>[]) (λ_=>True)):=by
 refine T.qu.has (k:=13) nL (λvs H Q E h=>?_) (λfa cdv A outer sh0 H vs Q E hr h=>?_)
 ·obtain⟨e,r,ca,x,s,k,l,t,cl,rfl,_⟩:=h;rfl
 ·obtain⟨e,r,ca,x,s,n,l,t,cl,rfl,A0,_,hd,k⟩:=h;obtain⟨G,R,hl,hf⟩:=A0;obtain⟨dr,hr0⟩:=id R;rw[xK]at hd k;obtain⟨g0,hd2⟩:=lF (show l.drop n=code cl::((ez cl).tail++t)from hd);refine⟨_,(ag (aI (i:=2) nL.nd rfl (Or.inl rfl) (pm0 (a8 T) hr nox (pv 1))) (ag (aP (az fA (pv 2) (kL (aa (pg T.jS) (aa (pg T.mF) (aa (pg T.rg) (aa (pg T.oR) (aa (pg T.sF) ai)))))) (by with_unfolding_all rfl)) (ah (ay (pf (rN T) hr nox (aa (pv 0) (aa (pv 1) (aa (pv 2) ai)))))) aO) (ah (ay (pf (tJ T) hr nox (aa (pv 0) (aa (pv 1) (aa (pv 2) ai)))))))),?_⟩
  try dsimp only[aM]
  walk_at"rd";refine bb hr0 ?_ rfl;walk_at"rd";refine⟨r,ca,n,l,_,rfl,R,hl,g0,λH1 R1 f1=>?_⟩;have hl1:=SqL.fr hr0 f1 hl;have G1:=G.rdr hr0 f1 R1;walk_at"rd";refine⟨by show 5≤sizeLine;decide,λp2 hp2=>?_⟩
  have s2:=ao (o:=.tup [.int 0,.int 1,.int 2,.int 3,.int 4]) hp2;have G2:=G1.same s2;obtain⟨d1,h1⟩:=R1;have R2:kD c (upd H1 p2 (.tup [.int 0,.int 1,.int 2,.int 3,.int 4])) r ca (n+1):=⟨d1,s2 _ _ h1⟩;have hl2:=s2.seq hl1;have f2:=f1.trans (Fr.of (F:=λb=>b=r) s2);refine inN (l:=[0,1,2,3,4]) af ?_;rw[Bj];have fin:∀H' x' p,Ret c e r ca x (upd H1 p2 (.tup [.int 0,.int 1,.int 2,.int 3,.int 4])) (Wqatae.step s cl).1 (n+1+(ez cl).tail.length) (ans (Wqatae.step s cl).2) H' x' p→Q (.ref p) H':=λH' x' p h=>by
   refine k H' x' p ⟨h.eng,?_,λb o q m=>h.fr _ _ (f2 _ _ q λz=>m (.inr (.inl z))) m,λb hb=>?_,h.out⟩
   ·rw[List.length_cons,show n+((ez cl).tail.length+1)=n+1+(ez cl).tail.length by omega];exact h.rdr
   ·rcases h.new b hb with z|z
    ·exact .inl z
    ·right
     cases q:H b with
     |none=>rfl
     |some o=>
      by_cases n1:b=r
      ·rw[n1,s2 _ _ h1]at z;cases z
      ·rw[f2 _ _ q n1]at z;cases z
  refine bR ?_;refine cj (λhb=>?_) (λhb=>?_)
  ·rw[decide_eq_true_eq]at hb;walk_at"rd";exact⟨e,r,ca,x,s,n+1,l,t,cl,rfl,⟨G2,R2,hl2,hf⟩,hb,hd2,fin⟩
  ·rw[decide_eq_false_iff_not]at hb;walk_at"rd";exact⟨e,r,ca,x,s,n+1,l,t,cl,rfl,⟨G2,R2,hl2,hf⟩,(show(5:Int)≤code cl by omega),hd2,fin⟩
end
section
open Sp (i8 ans ez row flat outs sq)
open Wqatae (State says tells)
theorem Dk{H:Hp}{e:Addr}{x:SX}{s:State}(G:bQ c H e x s)(cl:WC):(ans (Wqatae.step s cl).2).length≤20002:=by
 cases cl with
 |compile b=>
  rw[(vm s b).2];unfold mC;split
  ·exact(show 1≤20002 by decide)
  split<;>exact(show _≤20002 by simp)
 |clear=>exact(show 1≤20002 by decide)
 |put n v=>rw[(DD s n v).2];exact(show 1≤20002 by decide)
 |openItem n=>rw[(BD s n).2];exact(show 1≤20002 by decide)
 |closeItem=>rw[(zi s).2];exact(show 1≤20002 by decide)
 |size=>rw[(BC s).2];unfold oW;split<;>simp
 |render f n=>
  rw[(xj s f n).2];unfold rI;split
  ·simp
  ·rw[List.length_cons,Sp.aQ,List.length_take];omega
 |hole i=>
  rw[(BE s i).2];unfold sj;obtain⟨dx,pcv,hself,hpv⟩:=G.self;cases ht:s.tmpl with
  |none=>simp
  |some t=>
   rw[ht]at hpv;obtain⟨pl,as,ps,rfl,P,TM,ho⟩:=hpv;dsimp only;cases hi:(Stencil.holes .text t)[i]? with
   |none=>simp
   |some h=>
    have m:(some ((h.2:Nat):Int),i8 h.1)∈(Stencil.holes .text t).map λh=>(some ((h.2:Nat):Int),i8 h.1):=List.mem_map.mpr ⟨h,List.mem_of_getElem? hi,rfl⟩;rw[←TM.holes]at m;obtain⟨p,hp,e2⟩:=List.mem_map.mp m;have:=TM.small p (List.mem_filter.mp hp).1;injection e2 with _ e3
    rw[e3,Sp.aQ]at this;simp only[List.length_cons,Sp.aQ];omega
 |check b=>
  rw[(zj s b).2];unfold wz;split
  ·simp
  split<;>simp
 |event i b=>
  rw[(zh s i b).2];unfold Ab;split
  ·simp
  ·rename_i hb;have me:=B1 b;cases hl:Stencil.eventsOf b with
   |none=>simp
   |some l=>
    rw[hl]at me;obtain⟨ts,h1,h2⟩:=me;dsimp only;cases hv:l[i]? with
    |none=>simp
    |some v=>
     have:=vi (by omega) h1 h2 hv
     simp only[List.length_cons,Sp.aQ];omega
def DH(K:PySem.W.Frag):Sp:=λvs H Q _=>∃(a:Addr)(l:List Int)(cs:List WC),vs=[.ref a]∧SqL K H a (l.map V.int)∧Sp.Hc l cs∧l.length≤40000∧∀H' p,H' p=some (.lst ((PyWqatae.answers l).map V.int))→Q (.ref p) H'
theorem yc{H:Hp}{a p:Addr}{o:HO}{xs:List V}(h:SqL K H a xs)(n:p=a→∀H',SqL K H' a xs):SqL K (upd H p o) a xs:=by
 by_cases z:p=a
 ·exact n z _
 ·rcases h with(h|⟨u,h⟩)|h
  ·exact .inl (.inl (by rw[ae (Ne.symm z)];exact h))
  ·exact .inl (.inr ⟨u,by rw[ae (Ne.symm z)];exact h⟩)
  ·exact .inr h
theorem zk{H:Hp}{a p:Addr}{xs:List V}(h:SqL K H a xs)(hp:H p=none):p=a→∀H',SqL K H' a xs:=λz=>by
 subst z;rcases h with(h|⟨u,h⟩)|h
 ·rw[hp]at h;cases h
 ·rw[hp]at h;cases h
 ·exactλ_=>.inr h
def NF(H H':Hp):Prop:=∀b o,H b=some o→(∀o' u,o≠.frz o' u)→H' b=some o
theorem aH.nf{H H':Hp}{x:SX}{d:SD}(S:aH c H x d)(f:NF H H'):aH c H' x d:=by
 have kT:∀a' w,cu c H a' w→cu c H' a' w:=λa' w h=>by
  obtain⟨dt,wd,l1,l2,l3,e1,e2,e3,e4,e5⟩:=h;exact⟨dt,wd,l1,l2,l3,f _ _ e1 (by intro _ _ z;cases z),f _ _ e2 (by intro _ _ z;cases z),f _ _ e3 (by intro _ _ z;cases z),f _ _ e4 (by intro _ _ z;cases z),f _ _ e5 (by intro _ _ z;cases z)⟩
 obtain⟨⟨ds,hs⟩,h2,h3,h4,h5,h6,h7,h8,h9,h10,h11,h12,h13,h15,h16,h17,h14⟩:=S;refine⟨⟨ds,f _ _ hs (by intro _ _ z;cases z)⟩,f _ _ h2 (by intro _ _ z;cases z),h3,λi q g=>?_,λi q g=>?_,λi q g=>?_,λi n=>?_,h8,h9,h10,h11,h12,h13,h15,h16,h17,λp hp=>?_⟩
 ·obtain⟨d1,g1⟩:=h4 i q g;exact⟨d1,f _ _ g1 (by intro _ _ z;cases z)⟩
 ·obtain⟨k,e1,e2,e3⟩:=h5 i q g;exact⟨k,f _ _ e1 (by intro _ _ z;cases z),e2,λn=>(e3 n).kp kT⟩
 ·obtain⟨k,e1,e2⟩:=h6 i q g;exact⟨k,f _ _ e1 (by intro _ _ z;cases z),e2⟩
 ·rcases h7 i n with g|⟨la,e1,e2,e3⟩
  ·exact .inl g
  ·exact .inr ⟨la,e1,e2,f _ _ e3 (by intro _ _ z;cases z)⟩
 ·obtain⟨y,ys,g⟩:=h14 p hp;exact⟨y,ys,f _ _ g (by intro _ _ z;cases z)⟩
theorem bQ.nf{H H':Hp}{e:Addr}{x:SX}{s:State}(h:bQ c H e x s)(f:NF H H'):bQ c H' e x s:=by
 obtain⟨⟨dx,pv,h1,h2⟩,h3⟩:=h;refine⟨⟨dx,pv,f _ _ h1 (by intro _ _ z;cases z),?_⟩,h3.nf f⟩
 cases ht:s.tmpl with
 |none=>rw[ht]at h2;exact h2
 |some t=>
  rw[ht]at h2;obtain⟨pl,as,ps,rfl,P,TM,ho⟩:=h2;exact⟨pl,as,ps,rfl,⟨f _ _ P.lst (by intro _ _ z;cases z),P.each.imp λq p⟨⟨d,e1⟩,e2,e3⟩=>⟨⟨d,f _ _ e1 (by intro _ _ z;cases z)⟩,f _ _ e2 (by intro _ _ z;cases z),f _ _ e3 (by intro _ _ z;cases z)⟩⟩,TM,ho⟩
theorem Ek{H:Hp}{p:Addr}{od:Obj}{u o:HO}(h:H p=some (.frz od u)):NF H (upd H p o):=λb v e n=>by
 rw[ae (λz=>by rw[z,h]at e;injection e with e;exact n _ _ e.symm)];exact e
theorem El{H:Hp}{p:Addr}{o:HO}(h:H p=none):NF H (upd H p o):=λb v e _=>by
 rw[ae (aw e h)];exact e
theorem fN{H:Hp}{p:Addr}{o u:HO}:upd (upd H p o) p u=upd H p u:=by
 funext b
 by_cases z:b=p
 ·rw[z,af,af]
 ·rw[ae z,ae z,ae z]
structure LoopAt(c:Cs)(K:PySem.W.Frag)(e r a tl:Addr)(cs:List WC)(l:List Int)(H:Hp)(x:SX)(j:Nat):Prop where
 le:j≤cs.length
 told:H tl=some (.lst ((outs Wqatae.start (cs.take j)).map V.int))
 eng:∀o u,bQ c (upd H tl (.frz o u)) e x (sq Wqatae.start (cs.take j))
 rdr:∀o u,kD c (upd H tl (.frz o u)) r a ((flat (cs.take j)).length)
 lst:SqL K H a (l.map V.int)
 na:tl=a→∀H',SqL K H' a (l.map V.int)
 few:(outs Wqatae.start (cs.take j)).length≤j*20003
theorem LoopAt.KU{e r a tl:Addr}{cs:List WC}{l:List Int}{H:Hp}{x:SX}{j:Nat}(L:LoopAt c K e r a tl cs l H x j):kD c H r a ((flat (cs.take j)).length):=by
 have⟨d,h⟩:=L.rdr {cls:=.type "list",data:=.seq #[]} (.lst []);have:r≠tl:=λz=>by rw[z,af]at h;cases h
 rw[ae this]at h;exact⟨d,h⟩
theorem AO{fa:Addr}{fd:FuncData}(F:Fun K "answers" "answers" tq fa fd)(T:Txt K mg c):lM P w K mg base (CXx P w) 15 fa fd ["calls"] (DH K):=by
 refine wb (k:=14) F jl (λvs H Q E h=>?_) (λcdv A outer sh0 H vs Q E hr h=>?_)
 ·obtain⟨a,l,cs,rfl,_⟩:=h;rfl
 ·obtain⟨a,l,cs,rfl,hl,A0,hf,k⟩:=h;refine⟨_,(ag (aI (i:=1) jl.nd rfl (Or.inl rfl) (D8 (vQ T) hr nox))
   (ag (aI (i:=2) jl.nd rfl (Or.inl rfl) (pmk (qT T) hr nox (aa (pv 0) ai)))
   (ag (aI (i:=3) jl.nd rfl (Or.inl rfl) (aU ai))
   (ag (lh PassesOwn.leaving (mi (dk (pm0 (nB T) hr nox (pv 2)))) (ag (FO (aI (i:=4) jl.nd rfl (Or.inl rfl) (pf (vP T) hr nox (aa (pv 1) (aa (pv 2) ai)))))
   (ag (ax (dO PySem.F.plainAttrs_list PySem.F.slot_list_append PySem.F.type_list_append bq (pv 3) (aa (aK aD (by rfl) T.b8 PySem.boot_len (aa (pv 4) ai)) ai)))
   (ah (ax (dO PySem.F.plainAttrs_list PySem.F.slot_list_extend PySem.F.type_list_extend tM (pv 3) (aa (pv 4) ai)))))))
   (ah (ay (pv 3))))))),?_⟩
  try dsimp only[aM]
  refine aS (lg (nX (jy ?_)));intro e dx he hd nd;refine⟨e,dx,_,rfl,rfl,by rw[ae nd.symm];exact he,λH1 x s1 n1 G=>⟨rfl,?_⟩⟩
  have s01:=(ao (o:=.own e) hd).trans s1;have hl1:=s01.seq hl;refine cb (aS (lg (nX (l9 (fw rfl (jy ?_))))));intro r dr hr1 hdr ndr;refine⟨r,dr,a,_,rfl,rfl,⟨rfl,?_⟩⟩;have sd:=ao (o:=.own r) hdr;have hr2:upd H1 dr (.own r) r=none:=by rw[ae ndr.symm];exact hr1
  have s2:=sd.trans (ao (o:=.ins c.CallReader dr (bu (.ref a) (.int 0))) hr2)
  generalize hH2:upd (upd H1 dr (.own r)) r (.ins c.CallReader dr (bu (.ref a) (.int 0)))=H2 at s2
  have R2:kD c H2 r a 0:=⟨dr,by rw[←hH2,af];rfl⟩
  have G2:=G.same s2;have hl2:=s2.seq hl1;walk_at"rd";refine⟨Nat.zero_le _,λtl htl=>?_⟩;have L0:LoopAt c K e r a tl cs l (upd H2 tl (.lst [])) x 0:=by
   refine⟨Nat.zero_le _,af,λo u=>?_,λo u=>?_,yc hl2 (zk hl2 htl),zk hl2 htl,Nat.zero_le _⟩
   ·rw[fN];exact G2.nf (El htl)
   ·rw[fN];obtain⟨d,h⟩:=R2;exact⟨d,El htl _ _ h (by intro _ _ z;cases z)⟩
  refine cb (aS ?_);refine⟨λm σ H=>∃v4 x j,m=cs.length-j∧σ=[some (.ref a),some (.ref e),some (.ref r),some (.ref tl),v4]∧LoopAt c K e r a tl cs l H x j,⟨cs.length,none,x,0,rfl,rfl,L0⟩,?_⟩;rintro m σ H3 ⟨v4,x3,j,rfl,rfl,L⟩;have R3:=L.KU;obtain⟨d3,hr3⟩:=id R3;refine GW (r_B ?_);refine⟨_,rfl,?_⟩;refine bb hr3 ?_ rfl;walk_at"rd";refine⟨r,a,_,l,rfl,R3,L.lst,_,rfl,?_⟩;have hsp:l=flat (cs.take j)++flat (cs.drop j):=by rw[A0.flat,←Sp.z6,List.take_append_drop]
  by_cases hj:j<cs.length
  ·have hcl:cs[j]?=some cs[j]:=List.getElem?_eq_getElem hj
   generalize cs[j]=cl at hcl
   have hdj:cs.drop j=cl::cs.drop (j+1):=by
    rw[List.drop_eq_getElem_cons hj];rw[List.getElem?_eq_getElem hj]at hcl;injection hcl with hcl
    rw[hcl]
   rw[hdj,Sp.tT]at hsp;have hlt:(flat (cs.take j)).length<l.length:=by
    rw[hsp,List.length_append,List.length_append,xK,List.length_cons];omega
   rw[if_pos (by rw[decide_eq_false (by omega)];rfl)]
   refine⟨λσ' H'=>∃m',m'<cs.length-j∧∃v4 x j,m'=cs.length-j∧σ'=[some (.ref a),some (.ref e),some (.ref r),some (.ref tl),v4]∧LoopAt c K e r a tl cs l H' x j,λ_ _ h=>h,?_⟩;have ft:=L.few;have hj4:=A0.most;refine aS ⟨tl,_,L.told,trivial,λod=>?_⟩;refine lg (vD (l9 (fw rfl (l9 (fw rfl (jy ?_))))))
   generalize hHL:upd H3 tl (.frz od (.lst ((outs Wqatae.start (cs.take j)).map V.int)))=HL
   have GL:bQ c HL e x3 (sq Wqatae.start (cs.take j)):=hHL▸L.eng _ _;have RL:kD c HL r a (flat (cs.take j)).length:=hHL▸L.rdr _ _;have lL:SqL K HL a (l.map V.int):=hHL▸yc L.lst L.na;have tL:HL tl=some (.frz od (.lst ((outs Wqatae.start (cs.take j)).map V.int))):=by rw[←hHL,af]
   obtain⟨dL,hrL⟩:=id RL;obtain⟨dE,pcE,heL,_⟩:=GL.self;have hsm:=Dk GL cl;refine⟨e,r,a,x3,_,_,l,flat (cs.drop (j+1)),cl,rfl,⟨GL,RL,lL,hf⟩,trivial,by rw[hsp,List.drop_left],λH4 x4 p RT=>?_⟩
   have t4:H4 tl=some (.frz od (.lst ((outs Wqatae.start (cs.take j)).map V.int))):=RT.fr _ _ tL (by
    rintro(z|z|z)
    ·rw[z,heL]at tL;cases tL
    ·rw[z,hrL]at tL;cases tL
    ·rcases oh GL.store z with⟨d1,f1,v,e1,e2⟩|⟨y,ys,e1⟩|⟨k,e1⟩<;>(rw[tL]at e1;cases e1))
   have l4:SqL K H4 a (l.map V.int):=DG GL.store heL hrL RT.fr lL;have npt:p≠tl:=λz=>by have:=RT.out;rw[z,t4]at this;cases this
   refine⟨t4,?_⟩;have p5:upd H4 tl (.lst ((outs Wqatae.start (cs.take j)).map V.int)) p=some (.lst ((ans (Wqatae.step (sq Wqatae.start (cs.take j)) cl).2).map V.int)):=by rw[ae npt];exact RT.out
   generalize hout:ans (Wqatae.step (sq Wqatae.start (cs.take j)) cl).2=out at p5 hsm
   walk_at"rd";refine tyL af ?_;walk_at"rd";refine⟨p,_,rfl,.inl (SqL.of p5),?_⟩;rw[List.length_map];have sl:sizeLine=16777216:=rfl;have jm:j*20003≤400*20003:=Nat.mul_le_mul_right _ (by omega)
   walk_at"rd";refine eO (xs:=(outs Wqatae.start (cs.take j)).map V.int) af (by rw[List.length_map,sl];omega) ?_
   rw[fN];walk_at"rd";refine tyL af ?_;walk_at"rd";refine Ep (b:=p) (xs:=(outs Wqatae.start (cs.take j)).map V.int++[.int (out.length:Nat)]) af (by rw[ae npt];exact RT.out) (by rw[List.length_append,List.length_map,List.length_map,hout,sl];simp only[List.length_cons,List.length_nil];omega) ?_
   rw[fN];refine⟨cs.length-(j+1),by omega,some (.ref p),x4,j+1,rfl,rfl,?_⟩
   have etk:cs.take (j+1)=cs.take j++[cl]:=take_snoc hcl;refine⟨hj,?_,λo u=>?_,λo u=>?_,yc l4 L.na,L.na,?_⟩
   ·rw[af,etk,Sp.xr,hout,List.map_append,List.append_assoc];rfl
   ·rw[fN,etk,Sp.C8];exact RT.eng.nf (Ek t4)
   ·rw[fN,etk,Sp.z6,List.length_append];obtain⟨d,h⟩:=RT.rdr;refine⟨d,Ek t4 _ _ ?_ (by intro _ _ z;cases z)⟩
    rw[show flat [cl]=ez cl from by rw[Sp.tT];exact List.append_nil _]
    exact h
   ·rw[etk,Sp.xr,hout,List.length_append,List.length_cons];omega
  ·have ej:j=cs.length:=Nat.le_antisymm L.le (by omega)
   have et:cs.take j=cs:=by rw[ej,List.take_length]
   have ht:=L.told;rw[et]at ht;rw[if_neg (by rw[et,←A0.flat,decide_eq_true (Nat.le_refl _)];decide)]
   refine⟨_,rfl,?_⟩;exact k H3 tl (by rw[A0.due];exact ht)
end
end
section
variable {K:PySem.W.Frag}{mg:Str→Option Value}{h:Heap}
theorem aY{x:Str}{i:Int}{t:_}(KX:K.In h)(G:h.Ns mainGlobals mg)(a:PySem.W.nsIn K mainGlobals x=some (some (.int i t)):=by walk_at"ki"):Kn mg x (.int i):=⟨_,PySem.W.mg_of KX G a,_,rfl⟩
theorem vS{x:Str}(KX:K.In h)(G:h.Ns mainGlobals mg)(a:PySem.W.nsIn K mainGlobals x=some none:=by walk_at"ki"):mg x=none:=PySem.W.mg_none_of KX G a
abbrev FnAt(K:PySem.W.Frag)(f:Addr)(x qual:Str)(st:Stmt)(oc:Value)(od an:Option Addr)(osl:Array (Option Value))(kV doc pm cdv ct:Value):Prop:=K.lookup f=some ⟨oc,od,.func (PySem.W.fnOf x qual (px st) (eW st) (aj st) .none kV doc pm an cdv ct),osl⟩
abbrev y9(x qual:Str)(st:Stmt)(ps:List Str):Prop:=∀(kV doc pm:Value)(an:Option Addr)(cdv ct:Value)(us:List Value),us.length=ps.length→bindArgs (PySem.W.fnOf x qual (px st) (eW st) (aj st) .none kV doc pm an cdv ct) ⟨us,[]⟩=pure (ps.zip us)
section
variable {C f:Addr}{x qual:Str}{st:Stmt}{ps:List Str}{oc:Value}{od an:Option Addr}{osl:Array (Option Value)}{kV doc pm cdv ct:Value}
theorem a9(KX:K.In h)(G:h.Ns mainGlobals mg)(a:PySem.W.nsIn K mainGlobals x=some (some (.ref f)):=by walk_at"ki")(l:FnAt K f x x st oc od an osl kV doc pm cdv ct:=by walk_at"ki")
  (c:PySem.W.codeIn K cdv x=true:=by walk_at"ki")(k:PySem.W.keepIn K (.ref f)=true:=by walk_at"ki")(b:y9 x x st ps:=by walk_at"bd"):eD K mg x st ps:=
 ⟨f,_,PySem.W.mg_of KX G a,oH l c k,(oH l c k).binds b⟩
theorem aG(cl:Cls K C)(a:PySem.W.findIn K (.ref C) x=some (some (.ref f)):=by walk_at"ki")(i:PySem.W.isFn K (.ref f)=true:=by walk_at"ki")(l:FnAt K f x qual st oc od an osl kV doc pm cdv ct:=by walk_at"ki")
  (c:PySem.W.codeIn K cdv qual=true:=by walk_at"ki")(k:PySem.W.keepIn K (.ref f)=true:=by walk_at"ki")(b:y9 x qual st ps:=by walk_at"bd"):bS K C x qual st ps:=
 ⟨cl,f,_,⟨a,i,k⟩,oH l c k,(oH l c k).binds b⟩
theorem fO(KX:K.In h)(G:h.Ns mainGlobals mg)(cl:Cls K C)(aC:PySem.W.nsIn K mainGlobals x=some (some (.ref C)):=by walk_at"ki")(mk:PySem.W.makesIn K C=true:=by walk_at"ki")(kc:PySem.W.keepIn K (.ref C)=true:=by walk_at"ki")
  (a:PySem.W.findIn K (.ref C) "__init__"=some (some (.ref f)):=by walk_at"ki")(i:PySem.W.isFn K (.ref f)=true:=by walk_at"ki")(l:FnAt K f "__init__" qual st oc od an osl kV doc pm cdv ct:=by walk_at"ki")
  (c:PySem.W.codeIn K cdv qual=true:=by walk_at"ki")(k:PySem.W.keepIn K (.ref f)=true:=by walk_at"ki")(b:y9 "__init__" qual st ps:=by walk_at"bd"):sL K mg C x qual st ps:=
 ⟨cl,f,_,PySem.W.mg_of KX G aC,⟨mk,a,i,kc⟩,oH l c k,(oH l c k).binds b⟩
theorem BY{N:Addr}{oc2:Value}{od2:Option Addr}{es:_}{ep:_}{sl2:_}(l:K.lookup N=some ⟨oc2,od2,.dict es ep,sl2⟩)(e:(es.toList.all λe=>match e.key with|.str _ _=>true|_=>false)=true):PySem.W.nsOkIn K N=true:=by
 unfold PySem.W.nsOkIn;rw[l];show es.all _=true;rw[←Array.all_toList];exact e
theorem Fb{N:Addr}{nm q bs sn sub ab col dd k0 k1 k2 k3 k5:_}{oc2:Value}{od2:Option Addr}{es:_}{ep:_}{sl2:_}(KX:K.In h)(G:h.Ns mainGlobals mg)(aC:PySem.W.nsIn K mainGlobals x=some (some (.ref C)):=by walk_at"ki")
  (lC:K.lookup C=some (excClassObj nm q C N bs Dr true sn sub ab col dd k0 k1 k2 k3 k5 "ValueError.__new__"):=by walk_at"ki")(lN:K.lookup N=some ⟨oc2,od2,.dict es ep,sl2⟩:=by walk_at"ki")(aN:(es.toList.all λe=>match e.key with|.str _ _=>true|_=>false)=true:=by rfl)
  (sa:PySem.W.findIn K (.ref C) "__setattr__"=some (some (.builtin "object.__setattr__")):=by walk_at"ki")(ga:PySem.W.findIn K (.ref C) "__getattribute__"=some (some (.builtin "BaseException.__getattribute__")):=by walk_at"ki")(gh:PySem.W.findIn K (.ref C) "__getattr__"=some none:=by walk_at"ki")
  (kc:PySem.W.keepIn K (.ref C)=true:=by walk_at"ki")(a:PySem.W.nsIn K N "__init__"=some (some (.ref f)):=by walk_at"ki")(i:PySem.W.isFn K (.ref f)=true:=by walk_at"ki")(l:FnAt K f "__init__" qual st oc od an osl kV doc pm cdv ct:=by walk_at"ki")
  (c:PySem.W.codeIn K cdv qual=true:=by walk_at"ki")(k:PySem.W.keepIn K (.ref f)=true:=by walk_at"ki")(b:y9 "__init__" qual st ps:=by walk_at"bd"):GB K mg C x qual st ps:=
 ⟨⟨PySem.F.excBase_ValueError,PySem.F.store_ValueError,PySem.F.attrBase_ValueError,⟨_,_,_,_,_,_,_,_,_,_,_,_,_,_,lC,BY lN aN⟩,sa,ga,gh⟩,PySem.W.mg_of KX G aC,f,_,⟨⟨_,_,_,_,_,_,_,_,_,_,_,_,_,_,lC,BY lN aN,a⟩,i,kc⟩,oH l c k,(oH l c k).binds b⟩
end
theorem jO{C:Addr}(pg:PySem.W.plainGet K C Str.empty=true:=by walk_at"ki")(hd:PySem.W.hasDictIn K C=true:=by walk_at"ki")(po:PySem.W.plainOver K C=true:=by walk_at"ki")
  (sa:PySem.W.findIn K (.ref C) "__setattr__"=some (some (.builtin "object.__setattr__")):=by walk_at"ki"):Cls K C:=⟨pg,hd,po,sa⟩
theorem jz{C:Addr}:∀f∈([]:List Str),au K C f:=λ_ z=>nomatch z
theorem aW{C:Addr}{f:Str}{fs:List Str}(r:∀f∈fs,au K C f)(a:PySem.W.findIn K (.ref C) f=some none:=by walk_at"ki"):∀g∈f::fs,au K C g:=List.forall_mem_cons.mpr ⟨a,r⟩
theorem DE{a:Addr}{xs:List V}{o:Obj}{its:Array Value}{n:Nat}(l:K.lookup a=some o)(c:o.cls=.type "tuple")(d:o.data=.seq its n)(z:its.size≤100)(v:Vals xs its.toList)(H:Hp):SqT K H a xs:=.inr ⟨o,its,n,l,c,d,Nat.le_trans z (by decide),v⟩
theorem DF{a:Addr}{x y:Str}{t u:_}{od:Option Addr}{n:Nat}{sl:_}(l:K.lookup a=some ⟨.type "tuple",od,.seq #[.str x t,.str y u] n,sl⟩)(H:Hp):SqT K H a [.str x,.str y]:=DE (its:=#[.str x t,.str y u]) l rfl rfl (by show 2≤100;decide) (.cons (show RelV (.str x) (.str x t)from⟨_,rfl⟩) (.cons (show RelV (.str y) (.str y u)from⟨_,rfl⟩) .nil)) H
theorem KA{a a1 a2 a3 a4 a5:Addr}{od:Option Addr}{n:Nat}{sl:_}(l:K.lookup a=some ⟨.type "tuple",od,.seq #[.ref a1,.ref a2,.ref a3,.ref a4,.ref a5] n,sl⟩)(H:Hp):SqT K H a [.ref a1,.ref a2,.ref a3,.ref a4,.ref a5]:=DE (its:=#[.ref a1,.ref a2,.ref a3,.ref a4,.ref a5]) l rfl rfl (by show 5≤100;decide) (.cons (show RelV (.ref a1) (.ref a1)from rfl) (.cons (show RelV (.ref a2) (.ref a2)from rfl) (.cons (show RelV (.ref a3) (.ref a3)from rfl) (.cons (show RelV (.ref a4) (.ref a4)from rfl) (.cons (show RelV (.ref a5) (.ref a5)from rfl) .nil))))) H
theorem FF{a a1 a2 a3 a4 a5:Addr}{od od1 od2 od3 od4 od5:Option Addr}{n n1 n2 n3 n4 n5:Nat}{sl sl1 sl2 sl3 sl4 sl5:_}{t1 t2 t3 t4 t5 u1 u2 u3 u4 u5:_}(KX:K.In h)(G:h.Ns mainGlobals mg)(aR:PySem.W.nsIn K mainGlobals "REFERENCES"=some (some (.ref a)):=by walk_at"ki")
  (l:K.lookup a=some ⟨.type "tuple",od,.seq #[.ref a1,.ref a2,.ref a3,.ref a4,.ref a5] n,sl⟩:=by walk_at"ki")
  (l1:K.lookup a1=some ⟨.type "tuple",od1,.seq #[.str "lt;" t1,.str "<" u1] n1,sl1⟩:=by walk_at"ki")(l2:K.lookup a2=some ⟨.type "tuple",od2,.seq #[.str "gt;" t2,.str ">" u2] n2,sl2⟩:=by walk_at"ki")
  (l3:K.lookup a3=some ⟨.type "tuple",od3,.seq #[.str "amp;" t3,.str "&" u3] n3,sl3⟩:=by walk_at"ki")(l4:K.lookup a4=some ⟨.type "tuple",od4,.seq #[.str "quot;" t4,.str "\"" u4] n4,sl4⟩:=by walk_at"ki")
  (l5:K.lookup a5=some ⟨.type "tuple",od5,.seq #[.str "apos;" t5,.str "'" u5] n5,sl5⟩:=by walk_at"ki"):
  ∃a a1 a2 a3 a4 a5:Addr,Kn mg "REFERENCES" (.ref a)∧∀H,SqT K H a [.ref a1,.ref a2,.ref a3,.ref a4,.ref a5]∧SqT K H a1 [.str "lt;",.str "<"]∧SqT K H a2 [.str "gt;",.str ">"]∧SqT K H a3 [.str "amp;",.str "&"]∧SqT K H a4 [.str "quot;",.str "\""]∧SqT K H a5 [.str "apos;",.str "'"]:=
 ⟨a,a1,a2,a3,a4,a5,⟨_,PySem.W.mg_of KX G aR,rfl⟩,λH=>⟨KA l H,DF l1 H,DF l2 H,DF l3 H,DF l4 H,DF l5 H⟩⟩
end
open PySem.W (Codec OpenSpec)in
theorem Hd{r:OpenSpec}{k:Nat}{q:Program}{loose:List Str}{XP:(Str→Option Value)→Heap→Prop}{YP:World→Heap→Prop}{d:DefRec}{K:Params→PySem.W.Frag}{ps:List Str}{sp:PySem.W.Frag→Sp}
  (hwell:r.wellSaid=true)(hdf:d.params.defaults=[])(hlen:r.args.length=ps.length)(hr:cJ k callerA)
  (hY:∀(w:World)(h:Heap),YP w h→(K w.params).In h)
  (F:∀(w:World)(mg:Str→Option Value)(fa:Addr)(h:Heap),YP w h→(K w.params).In h→h.Ns mainGlobals mg→mg d.name=some (.ref fa)→
   ∃fd:FuncData,(∀(s:Shared)(us:List Value),us.length=ps.length→BindsTo s fd ⟨us,[]⟩ (ps.zip us))∧
    ∀base:Heap,(K w.params).In base→base.Ns mainGlobals mg→lM r.prog w (K w.params) mg base (CXx r.prog w) k fa fd ps (sp (K w.params)))
  (hsp:∀(K:PySem.W.Frag)(H:Hp)(xs:List V)(a:Codec.denoteAll r.args),Aq H→Codec.withinAll r.args a=true→Codec.app r.args r.asked a=true→mZ K H xs (Codec.encAll r.args a)→
   sp K xs H (λv H'=>Dw K H' v (r.ret.enc (Codec.app r.args r.f a))) λ_ _ _=>False):
  PySem.W.WalkOS q loose XP YP r d [] (λf vs=>PySem.call f vs):=
 Ct (K:=K) (CX:=λw=>CXx r.prog w) (sp:=λw=>sp (K w.params)) hwell hdf hlen hr hY F (λw H xs a h1 h2 h3 h4=>hsp (K w.params) H xs a h1 h2 h3 h4) λ_ _ _ _ _⟨_,_,_,_,_,_,_,_,_,_,_,_,_,z⟩=>z
theorem Hf{K:PySem.W.Frag}{mg:Str→Option Value}{zFault zToken zScanner zThing zPiece zPieceReader zText zScope zStore zWalk zEngine zCallReader:Addr}(aFault:PySem.W.nsIn K mainGlobals "Fault"=some (some (.ref zFault)))(aToken:PySem.W.nsIn K mainGlobals "Token"=some (some (.ref zToken)))(aScanner:PySem.W.nsIn K mainGlobals "Scanner"=some (some (.ref zScanner)))(aThing:PySem.W.nsIn K mainGlobals "Thing"=some (some (.ref zThing)))(aPiece:PySem.W.nsIn K mainGlobals "Piece"=some (some (.ref zPiece)))(aPieceReader:PySem.W.nsIn K mainGlobals "PieceReader"=some (some (.ref zPieceReader)))(aText:PySem.W.nsIn K mainGlobals "Text"=some (some (.ref zText)))(aScope:PySem.W.nsIn K mainGlobals "Scope"=some (some (.ref zScope)))(aStore:PySem.W.nsIn K mainGlobals "Store"=some (some (.ref zStore)))(aWalk:PySem.W.nsIn K mainGlobals "Walk"=some (some (.ref zWalk)))(aEngine:PySem.W.nsIn K mainGlobals "Engine"=some (some (.ref zEngine)))(aCallReader:PySem.W.nsIn K mainGlobals "CallReader"=some (some (.ref zCallReader)))(cToken:Cls K zToken)(cScanner:Cls K zScanner)(cThing:Cls K zThing)(cPiece:Cls K zPiece)(cPieceReader:Cls K zPieceReader)(cText:Cls K zText)(cScope:Cls K zScope)(cStore:Cls K zStore)(cWalk:Cls K zWalk)(cEngine:Cls K zEngine)(cCallReader:Cls K zCallReader)(T:Cls K zToken→Cls K zScanner→Cls K zThing→Cls K zPiece→Cls K zPieceReader→Cls K zText→Cls K zScope→Cls K zStore→Cls K zWalk→Cls K zEngine→Cls K zCallReader→Txt K mg ⟨zFault,zToken,zScanner,zThing,zPiece,zPieceReader,zText,zScope,zStore,zWalk,zEngine,zCallReader⟩):Txt K mg ⟨zFault,zToken,zScanner,zThing,zPiece,zPieceReader,zText,zScope,zStore,zWalk,zEngine,zCallReader⟩:=T cToken cScanner cThing cPiece cPieceReader cText cScope cStore cWalk cEngine cCallReader
theorem IT{P:Program}{w:World}{K:PySem.W.Frag}{mg:Str→Option Value}{fa:Addr}{c:Cs}(hmg:mg "answers"=some (.ref fa))(T:Txt K mg c):
  ∃fd:FuncData,(∀(s:Shared)(us:List Value),us.length=(["calls"]:List Str).length→BindsTo s fd ⟨us,[]⟩ ((["calls"]:List Str).zip us))∧∀base:Heap,K.In base→base.Ns mainGlobals mg→lM P w K mg base (CXx P w) 15 fa fd ["calls"] (DH K):=by
 obtain⟨f,fd,h1,F,_⟩:=T.xP.ex;cases h1.symm.trans hmg;refine⟨fd,?_,λbase _ _=>AO F T⟩;obtain⟨oc,od,kV,doc,pm,an,cdv,ct,osl,rfl,lk,hcd⟩:=F.ex;exactλs us hu=>match us,hu with|[_],_=>.of_eq rfl
end W2
structure PySem.W.Fast:Prop where(tw7860409562873946490 tw3010606835640975593 tw3589486563158282851 tw3427759398376753714 tw17934786486927858341 tw5581831277996314425 tw9998216005952543858 tw8127482211134218641 tw15508793570507844042 tw13859558648776534610 tw16305763505437042701 tw4112697787125782119 tw8962635320641338333 tw13294049869533854731 tw2388115606066578221 tw6117287302444873072 tw15315001434313545741 tw5690848024433331894 tw13842284913678858150 tw17515654252075288221 tw6248235250230216425 tw18248838110512823660 tw7839831978184662285 tw8718387035136810519 tw4983376984944863501 tw12990443878125748239 tw10177030854170320591 tw4184626864320996883 tw4395731556926060679 tw5227226738961075090 tw4637553824686721605 tw13282096360866229355 tw9923299421282542290 tw17556452483339853330 tw17560369218661225722 tw14288387369196176747 tw16439996368814243385 tw18028392386517022895 tw12366832162829381254 tw11602753116485051065 tw5778787470962878491 tw4109489269468584000 tw14060936196747542417 tw9946440469602046881 tw7306710011624536702 tw13007044339161473455 tw10021931006997167886 tw8993906014119548855 tw16291044820730884665 tw12367569322979137621 tw15220812969318474964 tw3289172871271799913 tw516028325175486313 tw3171705156286811675 tw6157878549133628448 tw13039321778170443417 tw2206606263659378307 tw15709500998472653950 tw3928267242804568137 tw6505284160721854343 tw14640030744847992684 tw1867674012018697987 tw4395390203534494693 tw10662214738744257414 tw17600188237479351061 tw11699504840291377505 tw17919843499373928806 tw15185010030699104420 tw14227966311097371046 tw17395640874106281736 tw6731889594491780420 tw16304501790168871744 tw11300256824666819688 tw4850427102239312620 tw1316408704524815720 tw2214843946460420566 tw18212643093612410223 tw13817086553199756543 tw18175016784413493630 tw6427424655323117788 tw14026568053824700953 tw7000519957322584894 tw3543695170480698184 tw10442360193980218762 tw18400205554304035117 tw16739481683376249788 tw10066544666382259930 tw596900280820036331 tw13684124805339744099 tw10758519349923875323 tw17914231036398956797 tw15074176149774714932 tw15597757915826850021 tw4304254641276612135 tw9919519992202633169 tw11722252457281686040 tw13926708495287365064 tw5736725532774161913 tw15508030716367232189 tw4504754645654624357 tw1954466125875120783 tw18249055168511822508 tw5372079988620266205 tw104250164833279543 tw5604466899313546481 tw1561380395433992740 tw18288994639144947982 tw11704606053312729812 tw1243544576333363580 tw18011326239869789719 tw426729154726110847 tw11029595541297496497 tw13777693963329265344 tw9966632663426990273 tw17286090525551334004 tw4572294163751730554 tw5622320395470213054 tw13506525445893625088 tw5427544679389829119 tw10501210286122551549 tw12754589295223243226 tw1032165995786740791 tw14437395731624226862 tw15130956838684926531 tw2620778153744654339 tw8313414633990462396 tw14942452015717091781 tw8229532502518672539 tw14341912421244198852 tw12011738986143990942 tw13497497256083113031 tw6165366672897696371 tw3421166186794348307 tw1338868929068927008 tw4834851882134431453 tw14787758128336461450 tw13209074939985251480 tw10097795369615530415 tw9183126567106545862 tw18273039196794640342 tw16881521790758855129 tw3932648947041357721 tw6568250272515018440 tw4178314786399487402 tw16101846368066893110 tw12117312377212172504 tw7921950405334219288 tw17644839236120676265 tw15337496703175436870 tw2493854511313525863 tw15997628950956830711 tw11382838120073538232 tw8746110329814491420 tw9497077246850385977 tw13164145529303984665 tw4142584239964226634 tw17369409165385456359 tw9895932347520424955 tw7616563130095022294 tw16040345877631635808 tw1245492410436864880 tw16900678243682480163 tw14136163065922208281 tw11856333931600850604 tw756508463786112565 tw749820511767350966 tw1539595237861758596 tw5711656084349938574 tw2709774067942486770 tw1815088856716990649 tw11465719967783261118 tw3198299749521894250 tw11083030649532804769 tw10578021142702300197 tw15032249327645009816 tw265989388423893518 tw14546097923769109980 tw10947930872781037343 tw14619043307138068321 tw14783690570694276172 tw9262725477539180728 tw13485308226724644970 tw11345694800215887017 tw7882926708958732474 tw6742016061901282694 tw12276293433661010639 tw15121249518763294160 tw4233378793742357404 tw10406658300961154747 tw12836277954263298073 tw14616627717277320452 tw4240595065056485739 tw9636217511832768190 tw14986230197121088614 tw13982527904043640094 tw9438018190103317330 tw13594922341856732027 tw5494705997065312659 tw11451838656067668326 tw5982689677221497124 tw6583095930390965642 tw6366297242081180797 tw4349146928978170351 tw11647525274940431053 tw647413933459118319 tw15449287463098333195 tw11865263199985125213 tw9835176394899125271 tw13868090967385396372 tw12215103228308641305 tw300047313303778054 tw13380412340087690431 tw15517627416147355205 tw10442744880881947501 tw4379669005017559695 tw3699796337837026504 tw14928706425520852603 tw7840377273347126435 tw8214028238973812646 tw16553157735256677734 tw4839903204495586191 tw1244887776528965119 tw578015987635770797 tw1554210828565149268 tw15069114167630354655 tw7214088682006959394 tw16538930506241568119 tw2046911549617544305 tw6184725471797199239 tw285397130885201406 tw4115781365419601562 tw15186931601263050637 tw10227604258583856805 tw5059354501536594026 tw17466778672632675212 tw12281867677011917115 tw11040046776944124522 tw8973381085105855519 tw13220302184673531492 tw14918191347255340920 tw8297749341053645752 tw14079420675850843527 tw3414913828107889568 tw5584311269689250730 tw16845382827974381139 tw317222228538653607 tw3082424576786733320 tw11806821650885050051 tw18207956024412686000 tw18150592697538759907 tw8625919455074680270 tw1585191924387730556 tw2190497519466201628 tw7086002216102997112 tw16619883915759177586 tw1947589657860681 tw11329107011578532301 tw14348328012502719525 tw12335074021219551330 tw16632886171583980759 tw8497440720429033399 tw11998628347947376676 tw1029202415782745493 tw17277989909282029467 tw11753114428056764835 tw1142780673767530244 tw14199347168351115058 tw2470749368520251080 tw1553499501080619431 tw10056827906709453092 tw12028971346665496133 tw16049846433664700059 tw15178032521398513139 tw7036761255483828176 tw779606495517243526 tw12474546686449687219 tw16424021106332840415 tw13707233768282604121 tw13939340525377333060 tw11635846917619018398 tw7548121903370970644 tw400594085189763828 tw18055103201695445686 tw10377715363866161343 tw1424962767931747715 tw2730555685621096005 tw18153376709575805435 tw13132433582374462771 tw2442191261556558828 tw9063386847710061343 tw946532440448326861 tw4237312639642243520 tw5732901474601320861 tw14009417013566725112 tw15182091026824551282 tw11060724377461237439 tw4130613997214751569 tw2742895245443203215 tw324786007518451647 tw11867815609408218015 tw10733757045020318394 tw1906676477896940505 tw13970623437261794625 tw9138054370037602177 tw5212794305520680465 tw8644647763662635696 tw17659280313407536470 tw15005838249805863790 tw12301529012759066212 tw15517550550018606854 tw5686605224258349809 tw3382320847141809033 tw12836687009200840657 tw14982756247240414137 tw17792419848333908420 tw14942241147258884111 tw6383779612097360020 tw13188434477205602308 tw15231957933988187653 tw6715807370649984675 tw17225663266484594431 tw17071800570192415430 tw13276026022224617305 tw2105265507687238049 tw17979986926029509684 tw4058373352356160176 tw10170845140646337042 tw11068526052039314036 tw16735681276078434316 tw3406669390048515404 tw2308347246916769425 tw17272850768577100537 tw15690910649767794763 tw15603847989621724512 tw14351379489364287211 tw3839168071587915426 tw543150336457858748 tw6014879761113042291 tw17092635151082922628 tw10543499011311884991 tw1295988838517946664 tw7345712371138116912 tw8632653550698491222 tw8961044461157968863 tw15260602549113838290 tw15570586306529188438 tw11701500586611222090 tw10289409253670912565 tw6080880117916011623 tw11211948641548575470 tw5849459437062053723 tw12919329972259719039 tw3633042487606994565 tw1133225805034771297 tw3264473897640780207 tw2364432320725451218 tw14295782418894461146 tw9081922917580321560 tw5275996600649080848 tw4627118600618579701 tw6866329241394202922 tw16877443893454223115 tw3369058021516541368 tw4011795612480665450 tw14291888746584342303 tw2390054249105770105 tw13226399437912519104 tw18066149996285124398 tw9065691532114887972 tw7590180659144782216 tw3775150172315693420 tw11783201374464242814 tw4483712692550642284 tw17392439853545209638 tw9028519621540252140 tw4018805210642768625 tw13786122096658108080 tw16367901297121586561 tw3586803952159431562 tw5931230999733271069 tw10842510926961037547 tw2789504883215879033 tw14814031614287804372 tw16014287094339090865 tw7512053750879191009 tw2120738715183703504 tw1529740435042499126 tw9166758537657121085 tw4693987803143479472 tw3765841471422049841 tw6697475250190629787 tw15541357798633186947 tw6123943293292558036 tw16532417365389476350 tw5070481079421392199 tw17906732668809478937 tw7953339100100754330 tw8418690671787276006 tw17507407893788140900 tw9376946479874148908 tw11812077250389217931 tw3844741506439352284 tw4899011348899995977 tw620879056462037431 tw10573650968987419291 tw4782995994531588736 tw14893574068194286569 tw6875528197060869745 tw1407885586892000494 tw9917556382462818181 tw3445904430010565448 tw4316032928391141984 tw9172946401979656621 tw14673327304055413738 tw4457988016659900420 tw9966861065808767415 tw13800925043789961633 tw291498144398365658 tw5330414695111291334 tw4693322172686707010 tw10733014515663632719 tw4712755593105509573 tw12714648116058338118 tw9909542536895439286 tw3103801812043534889 tw8317703461332216176 tw2493694772630992828 tw7410056618843859797 tw13083543964681149696 tw7496479013042147265 tw13344901927356562540 tw16326401888823768928 tw12566263504456720530 tw994091397861933510 tw1395810050349638022 tw8835250835654233520 tw13920662875843832916 tw5505189193010655060 tw16354579544250539322 tw10235188610375525954 tw4304343664529792598 tw17104660511093981384 tw16074752921467430667 tw16958804215376663592 tw13567787692944098431 tw8988289311005217057 tw3649509326416375018 tw7012447443214140995 tw9678782831337032645 tw11252200064102224942 tw6963985413132824934 tw352175882955741056 tw2157402757327646714 tw17652921638961577947 tw6181545705707778155 tw9580395744245462918 tw14568232859205671737 tw10824272359046722256 tw11681291138096593441 tw15079893803390130444 tw4947610631254539962 tw12713352948193082868 tw15333868163528892983 tw8375157880566265070 tw3077284696670273177 tw1838813317735934287 tw7914568234446853922 tw13644861639290263198 tw1508128632473879947 tw16433563485551095990 tw1687335368433341844 tw12544157579092196030 tw5014012879599650137 tw934383054880479524 tw130078646891441431 tw15885164766494563769 tw4789419874579197885 tw5983839723399116786 tw11796085925040091646 tw17925424018057617074 tw6250472561846910384 tw5498661674787209281 tw7655388806455732261 tw14659370073624093654 tw18144435232793456931 tw803229566150933888 tw7558697298433308894 tw13195806697844575436 tw10521472439478058732 tw6930615942132383675 tw10750468702391471625 tw5035653739320381760 tw12622416049775071417 tw12549519132983203620 tw16963700754299294740 tw9179305428186258855 tw18357139680372082188 tw11258899256945117861 tw5750959238864726697 tw7910249009696390733 tw10993451810869819215 tw15363193463237029625 tw2798385589567876047 tw10924937336701961857 tw13167778555196703818 tw13878450699682533074 tw7774565762542165547 tw4715252243251363635 tw6492137292714029358 tw7880722522523076746 tw15222203168399109361 tw8073957122710549950 tw13021560613490878953 tw16976732182275962020 tw339457311975464678 tw11300236023388258792 tw2488011077127007315 tw6305198375175222835 tw5248740379061784071 tw3504120559016790299 tw13711302743747601507 tw5787418110219070174 tw6185252279445607215 tw1865596552423535205 tw15824356549956763542 tw387542645175509835 tw14148002745538490406 tw2287577055706304450 tw12265950262140087276 tw8005605506982064162 tw10142721609785184678 tw11025315035886140490 tw14476295717101930032 tw9415023735930030716 tw13186530620575857134 tw14269690132729125253 tw11685068341935309126 tw3489519835668237176 tw12199701045035752067 tw11526181630860638455 tw17218471464189938628 tw373316386502604561 tw2300112648229590616 tw5734265076948001239 tw9898640580142555181 tw9687205757779646020 tw15502000378939172306 tw8275943927728277201 tw8035173673542064663 tw4490846166963937926 tw8643846596619600813 tw4713497004055361010 tw4672361082206924497 tw11553934992942125643 tw5751642319320685686 tw3548143146602046094 tw4619888199746774326 tw8466739026749990003 tw17041822796898202511 tw13641882631459021967 tw15173404105624286810 tw6107401202700963088 tw9807146503640635553 tw3779613773831330379 tw8120773077172026393 tw7465306335345526118 tw10966581587184274058 tw9272459652626306428 tw18231984310054617104 tw18279789430978918473 tw9856129234962643513 tw15214222435382671390 tw9118310118159069955 tw14436642388265215683 tw6317860074126051722 tw2635605361369261311 tw621661369167968021 tw2179047489372433874 tw17047649067338827807 tw9037278206501333827 tw6238845881051196007 tw6807193627291181321 tw16192336203126852326 tw11524534532738442228 tw1212359950018895229 tw7166205910191704182 tw16389479154164814989 tw12121285735463760748 tw15441729406070492416 tw14883766585434312890 tw5908015763456593899 tw14796568027168206393 tw17559076409424330337 tw5391024310082993714 tw418795638223620992 tw4952648684525602868 tw9314169765568711283 tw11034065298988667486 tw17873405563962328294 tw16411788627466616700 tw16807170294719609823 tw9675335328572324172 tw781998813351840795 tw6610193861065841545 tw13538161285125942997 tw5118491388011088313 tw4964411703168367931 tw14051424543373408707 tw9624885027100573607 tw17665199095021468342 tw6924200754552433301 tw14639750340667081296 tw16210054774471250057 tw10907159792849057968 tw1211760124877694842 tw963941765591163781 tw15079652352054857332 tw14518437224585008314 tw15905788964462507150 tw16609128375685525718 tw2471017903069295755 tw3947151779650968810 tw14575554849477279348 tw12633657850440647134 tw9907365877826884142 tw15930514237449341324 tw5228689800793226208 tw10844395769962065089 tw1701084104104765556 tw11474939224605288954 tw758268098592358417 tw5323098470085360789 tw2000087457381541177 tw12592372791625647695 tw9162164088996415719 tw13984967455472074354 tw6648908226474325994 tw13122627389957778875 tw6024489327274508824 tw5702644894802054102 tw12687486757877279000 tw4280449626111107337 tw17965129427854126001 tw6873139517997113614 tw10240987833906396676 tw2442415496661323503 tw18440407128496480865 tw7896378152412076517 tw14360254650636193204 tw4642754399900271779 tw13336759396683963017 tw9270233179479528410 tw1524000271098155082 tw15030582244508291832 tw1781281233428340993 tw6618428286370267830 tw11771411295914776793 tw12487377949932760425 tw12365230195443233601 tw2259652932303410863 tw2554214200725085782 tw16654102209741540836 tw9618605818247393557 tw12002392098330069137 tw6843604041411061800 tw1040833676465289579 tw1428055984744224505 tw15565341323051251828 tw17214852473637623272 tw907980168481965703 tw10200348796851281429 tw8064309054285566922 tw2061833468817619527 tw14324732185703675584 tw17758389310939252388 tw8046659177319115020 tw1847807525849373216 tw10698232104052025783 tw7920284889876935613 tw14138694384615548882 tw4115202376402780946 tw7744092694967564805 tw6540431103427564349 tw9150069264780289486 tw10295577439398082043 tw6521337994880047687 tw17125697645754901400 tw10611562411112209761 tw4310120797261073736 tw9685080816777009938 tw619281274367630830 tw6406983436386423518 tw12531365373226055600 tw2040852467117856866 tw11560462485853683101 tw16706922496593548893 tw10910127693676804123 tw13546081898221686950 tw14351363516230623929 tw9457361919128900610 tw867812396244290070 tw491558106086440695 tw918295645412190632 tw4859211647491588689 tw4205270128151175379 tw13638666830012997982 tw16184863408174050431 tw13644599130919205236 tw9388232779356137710 tw8996384240624036706 tw14445015367649071385 tw14806149776775035720 tw10234336153363021090 tw11700577476517994857 tw11388922377882342031 tw10026100179812665508 tw2075274843843451193 tw11791243239555274287 tw17692893343813450296 tw14046942287348578616 tw8098206609953781433 tw5065936187568553797 tw15604283709472999038 tw13935594017478733413 tw15673554834920459984 tw6876706653812767235 tw1599980703486034528 tw14719959434590581446 tw16439582764600028401 tw1114254424892492760 tw7450085059549932263 tw2870486857888744001 tw3018464763785350144 tw13107555332577691943 tw17156378571205457770 tw3490273493500463181 tw891043623911990902 tw9845110294321621364 tw2314991411593901823 tw3724367005237618847 tw4098719023506732230 tw2965030660997559378 tw10007153026887527357 tw5889212496068216801 tw6058513101187346522 tw1967496558524518145 tw11642761443442869081 tw6913960866213428374 tw11112418441363776821 tw3183689569267632602 tw363613071748166263 tw4361176015090772603 tw14539930663110487859 tw13868462374547061699 tw8625707368492508670 tw9814736272387260256 tw15758255167083916131 tw12526417454090551581 tw8727271947549721100 tw13336183503663163524 tw14723490937766748830 tw6339162819518897092 tw1379259384228902544 tw8502155173063621444 tw8688215023620747934 tw13599919481474719439 tw13965616642331150539 tw9698380904566030182 tw9692076158600647613 tw6905876281102947631 tw13638090066043682196 tw5627712195573219582 tw10754700048895728815 tw9219555538115034949 tw8539647422599130872 tw1406751557499984164 tw11795715079793837595 tw15888817344661541265 tw7577820384125893289 tw1457525075903887130 tw16237413442305002427 tw15361840631147004797 tw4188061356686826191 tw10368200367973297539 tw14655381636971961856 tw17082969823349401455 tw14484782833937664549 tw12739292367988742799 tw10233076476718303948 tw3394656196293516572 tw8328457537271397316 tw8899400811932646992 tw11732570760482636800 tw6948647779096002490 tw721332123049933043 tw9903987605128720433 tw12938144134953694141 tw15700872829243658072 tw8337336379937854015 tw8402811499558756767 tw13010394330670975425 tw12673037682626646579 tw14725650527696128397 tw1486377973169450789 tw12949868133273490631 tw3274855125145704174 tw16312520912885449080 tw11024778605454083524 tw2820136313865953164 tw15744288457872339657 tw8714147810842980763 tw7309707317877880745 tw13099244982794827735 tw16117642558665868573 tw3683737296686713618 tw8730178675153002904 tw10072348559051894415 tw14853926828317759639 tw2238031290593651746 tw4950839322374006107 tw6369187465639834795 tw10389706367563012349 tw2669899023020139991 tw17743145823445886979 tw18396015645773704823 tw15439534639223199916 tw17464042635480804091 tw6890399540218183083 tw10387991852387601185 tw17773445025167389451 tw14880322012144909948 tw1963988560263892357 tw4711290926775052411 tw1393409137550224037 tw11271240464042218866 tw10522238478846620176 tw11696073407257593095 tw10702899110491073007 tw7526968140554325093 tw16275299133202006762 tw15206300751499028341 tw11780483590571040188 tw13684825736698598005 tw5683600141633957046 tw1626686040232901148 tw17055595591012960545 tw6381153017982016895 tw3702052086508129549 tw15278660214938361107 tw5345302370500019388 tw11669257776431084505 tw9672701977585883892 tw13245894468463022741 tw7133301807260223694 tw12680158665893310986 tw15903732658448988758 tw16674984609113609431 tw3682496645661816593 tw14497906467497978965 tw18340212073345905220 tw1857377829193359509 tw8159519651310725545 tw9451877212444026450 tw15788631710229883429 tw8868076549177668356 tw13772694062855359858 tw863828455909377049 tw3953498088726842035 tw7274103623708796201 tw9287910167253891796 tw14568330244015591330 tw5939584131960500563 tw163436225231561229 tw3033548416880331734 tw5278539773013093552 tw3769365311669870431 tw4829514193602580542 tw41320384065550552 tw3565901518950456849 tw16607915442930655556 tw16891448414777487138 tw5102477723014794443 tw10886640483907230985:True)
open PySem PySem.W PyProof.Rows
local macro_rules|`(tactic|walk_at"ki")=>`(tactic|rfl)
local macro_rules|`(tactic|walk_at"bd")=>`(tactic|(intro _ _ _ _ _ _ us hl;first|exact(match us,hl with|[],_=>rfl)|exact(match us,hl with|[_],_=>rfl)|exact(match us,hl with|[_,_],_=>rfl)|exact(match us,hl with|[_,_,_],_=>rfl)|exact(match us,hl with|[_,_,_,_],_=>rfl)|exact(match us,hl with|[_,_,_,_,_],_=>rfl)))
set_option maxRecDepth 100000 in
set_option maxHeartbeats 0 in
theorem PySem.Challenge.cw_escapedplaces_s01_answers_holds : PySem.Challenge.rw_escapedplaces_s01_answers.Holds := by
 w_on;k_headS;(case hw=>exact⟨[.list [.int 1]],by decide+kernel,by decide+kernel⟩)
 k_fillS
 refine W2.Hd (r:=PySem.Challenge.rw_escapedplaces_s01_answers) (k:=15) (ps:=["calls"]) (sp:=W2.DH) (by decide+kernel) rfl rfl ⟨rfl,by decide,by decide⟩ (λw h Y=>PySem.W.kIn_of Y) ?F ?S
 case F=>
  intro w mg fa h Y KX G hmg;refine' W2.IT hmg (W2.Hf ?aFault ?aToken ?aScanner ?aThing ?aPiece ?aPieceReader ?aText ?aScope ?aStore ?aWalk ?aEngine ?aCallReader ?cToken ?cScanner ?cThing ?cPiece ?cPieceReader ?cText ?cScope ?cStore ?cWalk ?cEngine ?cCallReader ?T)
  case aFault=>walk_at"ki"
  case aToken=>walk_at"ki"
  case aScanner=>walk_at"ki"
  case aThing=>walk_at"ki"
  case aPiece=>walk_at"ki"
  case aPieceReader=>walk_at"ki"
  case aText=>walk_at"ki"
  case aScope=>walk_at"ki"
  case aStore=>walk_at"ki"
  case aWalk=>walk_at"ki"
  case aEngine=>walk_at"ki"
  case aCallReader=>walk_at"ki"
  case cToken=>exact W2.jO
  case cScanner=>exact W2.jO
  case cThing=>exact W2.jO
  case cPiece=>exact W2.jO
  case cPieceReader=>exact W2.jO
  case cText=>exact W2.jO
  case cScope=>exact W2.jO
  case cStore=>exact W2.jO
  case cWalk=>exact W2.jO
  case cEngine=>exact W2.jO
  case cCallReader=>exact W2.jO
  case T=>
   intro kToken kScanner kThing kPiece kPieceReader kText kScope kStore kWalk kEngine kCallReader;exact{
    jR:=W2.aY KX G,
    xU:=W2.aY KX G,
    Bn:=W2.aY KX G,
    gx:=W2.aY KX G,
    iN:=W2.aY KX G,
    jP:=W2.aY KX G,
    Bm:=W2.aY KX G,
    Am:=W2.aY KX G,
    yV:=W2.aY KX G,
    yX:=W2.aY KX G,
    An:=W2.aY KX G,
    pA:=W2.aY KX G,
    wA:=W2.aY KX G,
    sA:=W2.aY KX G,
    iW:=W2.aY KX G,
    iX:=W2.aY KX G,
    rf:=W2.aY KX G,
    dh:=W2.aY KX G,
    eX:=W2.aY KX G,
    gy:=W2.aY KX G,
    jT:=W2.aY KX G,
    mY:=W2.aY KX G,
    qw:=W2.aY KX G,
    lI:=W2.aY KX G,
    kC:=W2.aY KX G,
    qx:=W2.aY KX G,
    mD:=W2.aY KX G,
    kx:=W2.aY KX G,
    eZ:=W2.aY KX G,
    yY:=W2.aY KX G,
    eY:=W2.aY KX G,
    ig:=W2.aY KX G,
    oQ:=W2.aY KX G,
    wC:=W2.aY KX G,
    sD:=W2.aY KX G,
    yW:=W2.aY KX G,
    wB:=W2.aY KX G,
    mE:=W2.aY KX G,
    EX:=W2.aY KX G,
    oU:=W2.aY KX G,
    kz:=W2.aY KX G,
    oS:=W2.aY KX G,
    sC:=W2.aY KX G,
    jQ:=W2.aY KX G,
    hU:=W2.aY KX G,
    lH:=W2.aY KX G,
    jS:=W2.aY KX G,
    mF:=W2.aY KX G,
    rg:=W2.aY KX G,
    oR:=W2.aY KX G,
    sF:=W2.aY KX G,
    uC:=W2.aY KX G,
    qv:=W2.aY KX G,
    uD:=W2.aY KX G,
    sG:=W2.aY KX G,
    sE:=W2.aY KX G,
    b8:=W2.vS KX G,
    ve:=W2.vS KX G,
    Ap:=W2.vS KX G,
    Ha:=W2.vS KX G,
    G8:=W2.vS KX G,
    G9:=W2.vS KX G,
    rh:=W2.vS KX G,
    uz:=W2.a9 KX G,
    wj:=W2.a9 KX G,
    wk:=W2.a9 KX G,
    fK:=W2.a9 KX G,
    lD:=W2.a9 KX G,
    xN:=W2.a9 KX G,
    qt:=W2.a9 KX G,
    uA:=W2.a9 KX G,
    uB:=W2.a9 KX G,
    iM:=W2.a9 KX G,
    lB:=W2.a9 KX G,
    mU:=W2.a9 KX G,
    oM:=W2.a9 KX G,
    mT:=W2.a9 KX G,
    kq:=W2.a9 KX G,
    jL:=W2.a9 KX G,
    mS:=W2.a9 KX G,
    qp:=W2.a9 KX G,
    qo:=W2.a9 KX G,
    mV:=W2.a9 KX G,
    wm:=W2.a9 KX G,
    mR:=W2.a9 KX G,
    wg:=W2.a9 KX G,
    qr:=W2.a9 KX G,
    xM:=W2.a9 KX G,
    xO:=W2.a9 KX G,
    qu:=W2.a9 KX G,
    lE:=W2.a9 KX G,
    mW:=W2.a9 KX G,
    xP:=W2.a9 KX G,
    ic:=W2.fO KX G kToken,
    rY:=W2.aW (W2.aW (W2.aW (W2.aW (W2.jz)))),
    bF:=W2.fO KX G kScanner,
    oA:=W2.aG kScanner,
    kh:=W2.aG kScanner,
    oB:=W2.aG kScanner,
    oz:=W2.aG kScanner,
    iF:=W2.aG kScanner,
    gi:=W2.aG kScanner,
    fD:=W2.aG kScanner,
    gN:=W2.aG kScanner,
    eu:=W2.aG kScanner,
    fC:=W2.aG kScanner,
    cI:=W2.aG kScanner,
    cW:=W2.aG kScanner,
    dU:=W2.aG kScanner,
    eP:=W2.aG kScanner,
    gO:=W2.aG kScanner,
    df:=W2.aG kScanner,
    dS:=W2.aG kScanner,
    cV:=W2.aG kScanner,
    g9:=W2.aW (W2.aW (W2.aW (W2.aW (W2.aW (W2.aW (W2.jz)))))),
    ph:=W2.fO KX G kThing,
    yC:=W2.aW (W2.aW (W2.jz)),
    d9:=W2.fO KX G kPiece,
    pb:=W2.aW (W2.aW (W2.aW (W2.aW (W2.aW (W2.jz))))),
    b7:=W2.fO KX G kPieceReader,
    jG:=W2.aG kPieceReader,
    eQ:=W2.aG kPieceReader,
    fF:=W2.aG kPieceReader,
    fG:=W2.aG kPieceReader,
    gP:=W2.aG kPieceReader,
    ia:=W2.aW (W2.aW (W2.aW (W2.jz))),
    tR:=W2.fO KX G kText,
    AU:=W2.aW (W2.aW (W2.jz)),
    pj:=W2.fO KX G kScope,
    yD:=W2.aW (W2.aW (W2.jz)),
    ie:=W2.fO KX G kStore,
    kf:=W2.aG kStore,
    gM:=W2.aG kStore,
    ke:=W2.aG kStore,
    dR:=W2.aG kStore,
    ly:=W2.aG kStore,
    kg:=W2.aG kStore,
    jF:=W2.aG kStore,
    u9:=W2.aW (W2.aW (W2.aW (W2.jz))),
    gm:=W2.fO KX G kWalk,
    ur:=W2.aG kWalk,
    j9:=W2.aG kWalk,
    jE:=W2.aG kWalk,
    tK:=W2.aW (W2.aW (W2.aW (W2.aW (W2.aW (W2.jz))))),
    iL:=W2.fO KX G kEngine,
    fH:=W2.aG kEngine,
    gU:=W2.aG kEngine,
    i5:=W2.aG kEngine,
    iH:=W2.aG kEngine,
    gS:=W2.aG kEngine,
    i4:=W2.aG kEngine,
    gQ:=W2.aG kEngine,
    iG:=W2.aG kEngine,
    gj:=W2.aG kEngine,
    iI:=W2.aG kEngine,
    gW:=W2.aG kEngine,
    gR:=W2.aG kEngine,
    vU:=W2.aW (W2.aW (W2.jz)),
    c0:=W2.fO KX G kCallReader,
    iJ:=W2.aG kCallReader,
    eR:=W2.aG kCallReader,
    gX:=W2.aG kCallReader,
    mz:=W2.aW (W2.aW (W2.jz)),
    fM:=W2.Fb KX G,
    rP:=by walk_at"ki",
    refs:=W2.FF KX G}
 case S=>
  intro K H xs a hO hwi hask hx;cases hx with
  |cons h1 h2=>
   cases h2;cases h1 with
   |lst hs ha=>
    have e:=L2.B6 a.1 _ ha;subst e;obtain⟨cs,A⟩:=Sp.Bq (l:=a.1) hask;have q:((Codec.inLen 0 31000 a.1&&a.1.all (Codec.inInt 0 4294967295))&&true)=true:=hwi;rw[Bool.and_eq_true,Bool.and_eq_true]at q;exact⟨_,a.1,cs,rfl,hs,A,Nat.le_trans (Codec.inNat_iff.mp q.1.1).2 (by decide),λH' p hp=>.lst (L2.SqL.of hp) (L2.Cg _)⟩
