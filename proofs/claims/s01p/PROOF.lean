import PyProof.Rows.All
import Wide.All
import OpenK.AllK
import Wide.FinOn
import PyProof.EqAt
import PyProof.EqKinds
import PyProof.TupleCall
import KE.BitLaws
import Open.SpecLaws
import KE.OsHead
import KE.OsGo
import KE.KSortRegAny
import PyFlatLaws
import PySem.Challenge.RW_rungpasses_s01_answers
import LgScan
import PySem.SetOps
import KE.KDictList
import PyProof.Rows.SetFrom
import PyProof.Rows.SortShellAny
import PyProof.DictUpdate
import PyWqlgse
set_option Elab.async false
set_option linter.all false
set_option maxRecDepth 100000
set_option maxHeartbeats 4000000
namespace L2
open PySem PySem.Spec PyProof.Rows
abbrev Key:=Sum Int Str
def pF:Key→Value→Bool
 | .inl k,v=>Value.isInt k v
 | .inr x,v=>Value.isStrOf x v
def akX(w:World):Key→Int
 | .inl k=>hashInt k
 | .inr x=>hashStr w x
theorem j5:∀{k:Key} {v:Value},pF k v=true→(∃i t,k=Sum.inl i∧v=Value.int i t)∨(∃x t,k=Sum.inr x∧v=Value.str x t)
 | .inl i,v,h=>by
   obtain⟨t,e⟩:=Value.isInt_shape (k:=i) (v:=v) h
   exact .inl ⟨i,t,rfl,e⟩
 | .inr x,v,h=>by
   obtain⟨t,e⟩:=Value.isStrOf_shape (x:=x) (v:=v) h
   exact .inr ⟨x,t,rfl,e⟩
theorem aga(i:Int)(t:Tok):pF (.inl i) (.int i t)=true:=by simp[pF,Value.isInt]
theorem agb(x:Str)(t:Tok):pF (.inr x) (.str x t)=true:=by simp[pF,Value.isStrOf]
theorem ajr(a b:Int):decide ((Sum.inl a:Key)=Sum.inl b)=(a==b):=by
 by_cases e:a=b
 ·subst e;simp
 ·have h:¬(Sum.inl a:Key)=Sum.inl b:=fun q=>e (Sum.inl.inj q)
  rw[decide_eq_false h]
  exact(beq_eq_false_iff_ne.mpr e).symm
theorem ajs(a b:Str):decide ((Sum.inr a:Key)=Sum.inr b)=decide (a=b):=by
 by_cases e:a=b
 ·subst e;simp
 ·have h:¬(Sum.inr a:Key)=Sum.inr b:=fun q=>e (Sum.inr.inj q)
  rw[decide_eq_false h,decide_eq_false e]
theorem ajt(a:Int)(b:Str):decide ((Sum.inl a:Key)=Sum.inr b)=false:=decide_eq_false (fun q=>nomatch q)
theorem aju(a:Str)(b:Int):decide ((Sum.inr a:Key)=Sum.inl b)=false:=decide_eq_false (fun q=>nomatch q)
def fV(prog:Program)(w:World):PySem.KeyKind prog w Key where
 is:=pF
 hash:=akX w
 inj:=fun v a b ha hb=>by
  rcases j5 ha with⟨i,t,rfl,rfl⟩|⟨x,t,rfl,rfl⟩
  ·rcases j5 hb with⟨j,u,rfl,e⟩|⟨y,u,rfl,e⟩
   ·injection e with e1 _;rw[e1]
   ·exact nomatch e
  ·rcases j5 hb with⟨j,u,rfl,e⟩|⟨y,u,rfl,e⟩
   ·exact nomatch e
   ·injection e with e1 _;rw[e1]
 byValue:=fun k v h=>by
  rcases j5 h with⟨i,t,rfl,rfl⟩|⟨x,t,rfl,rfl⟩<;>rfl
 pyHash:=fun hv h=>by
  rcases j5 hv with⟨i,t,rfl,rfl⟩|⟨x,t,rfl,rfl⟩
  ·exact wpAny_pyHash_int h
  ·exact wpAny_pyHash_str h
 eqBool:=fun hu hv h=>by
  rcases j5 hu with⟨i,t,rfl,rfl⟩|⟨x,t,rfl,rfl⟩
  ·rcases j5 hv with⟨j,u,rfl,rfl⟩|⟨y,u,rfl,rfl⟩
   ·rw[ajr] at h;exact wpAny_eqBool_int h
   ·rw[ajt] at h;exact SeqAt.EqAt.int_str i t y u _ _ _ _ h
  ·rcases j5 hv with⟨j,u,rfl,rfl⟩|⟨y,u,rfl,rfl⟩
   ·rw[aju] at h;exact SeqAt.EqAt.str_int x t j u _ _ _ _ h
   ·rw[ajs] at h;exact wpAny_eqBool_str h
 «strs»:=fun k x t v h=>by
  rcases j5 h with⟨i,u,rfl,e⟩|⟨y,u,rfl,e⟩
  ·exact nomatch e
  ·injection e with e1 _
   subst e1
   cases v<;>rfl
theorem aem(prog:Program)(w:World)(i:Int)(t:Tok):(fV prog w).is (.inl i) (.int i t)=true:=aga i t
theorem aen(prog:Program)(w:World)(x:Str)(t:Tok):(fV prog w).is (.inr x) (.str x t)=true:=agb x t
end L2
namespace L2
open PySem PySem.Spec PyProof.Rows
inductive V where
 |non|bl (b:Bool)|int (i:Int)|str (x:Str)|gB (b:Array UInt8)|flt (b:UInt64)|ref (a:Addr)|ty (n:String)
 deriving DecidableEq
def RelV:V→Value→Prop
 | .non,u=>u=Value.none
 | .bl b,u=>u=Value.bool b
 | .int i,u=>∃t,u=Value.int i t
 | .str x,u=>∃t,u=Value.str x t
 | .gB b,u=>∃t,u=Value.bytes b t
 | .flt b,u=>∃t,u=Value.float b t
 | .ref a,u=>u=Value.ref a
 | .ty n,u=>u=Value.type n
abbrev Vals:List V→List Value→Prop:=Paired RelV
theorem Vals.length{xs:List V}{us:List Value}(r:Vals xs us):xs.length=us.length:=Paired.length r
theorem Vals.get:∀{xs:List V} {us:List Value} {i:Nat} {x:V},Vals xs us→xs[i]? =some x→∃u,us[i]? =some u∧RelV x u
 |_,_,_,_,.nil,e=>by simp at e
 |_,_,0,_,.cons r _,e=>by simp at e;subst e;exact⟨_,rfl,r⟩
 |_,_,i+1,x,.cons _ t,e=>by
  obtain⟨u,h1,h2⟩:=Vals.get (i:=i) (x:=x) t (by simpa using e)
  exact⟨u,by simpa using h1,h2⟩
theorem Vals.set{x:V}{u:Value}(r:RelV x u):∀{xs:List V} {us:List Value} (i:Nat),Vals xs us→Vals (xs.set i x) (us.set i u)
 |_,_,_,.nil=>.nil
 |_,_,0,.cons _ t=>.cons r t
 |_,_,i+1,.cons q t=>.cons q (Vals.set r i t)
theorem Vals.append:∀{xs ys:List V} {us ws:List Value},Vals xs us→Vals ys ws→Vals (xs++ys) (us++ws)
 |_,_,_,_,.nil,s=>s
 |_,_,_,_,.cons r t,s=>.cons r (Vals.append t s)
theorem Vals.take:∀{xs:List V} {us:List Value} (n:Nat),Vals xs us→Vals (xs.take n) (us.take n)
 |_,_,0,_=>.nil
 |_,_,_+1,.nil=>.nil
 |_,_,n+1,.cons r t=>.cons r (Vals.take n t)
theorem Vals.drop:∀{xs:List V} {us:List Value} (n:Nat),Vals xs us→Vals (xs.drop n) (us.drop n)
 |_,_,0,r=>r
 |_,_,_+1,.nil=>.nil
 |_,_,n+1,.cons _ t=>Vals.drop n t
def gq:Option V→Option Value→Prop
 |some v,some u=>RelV v u
 |none,none=>True
 |_,_=>False
def KV{κ:Type}:List (κ×V)→List (κ×Value)→Prop:=Paired fun(p:κ×V) (q:κ×Value)=>p.1=q.1∧RelV p.2 q.2
def kV:Key→V
 | .inl i=>.int i
 | .inr x=>.str x
inductive HO where
 |lst (xs:List V)
 |tup (xs:List V)
 |dK (kvs:List (Key×V))|dT (kvs:List (List Key×V))
 |set (S:Int→Bool) (n:Nat)
 |ins (C dx:Addr) (fs:List (Str×V))
 |own (x:Addr)
 |xd (fs:List (Str×V))
 |met (f x:Addr)
 |rng (lo hi:Int)
 |fH (o:Obj) (u:HO)
 |pQ (ps:Array Value)
 |ext (φ:Heap→Prop)
abbrev Hp:=Addr→Option HO
def upd(H:Hp)(a:Addr)(o:HO):Hp:=fun b=>if b=a then some o else H b
theorem aC{H:Hp}{a:Addr}{o:HO}:upd H a o a=some o:=by unfold upd;rw[if_pos rfl]
theorem aH{H:Hp}{a b:Addr}{o:HO}(h:b≠a):upd H a o b=H b:=by unfold upd;rw[if_neg h]
theorem g8{H:Hp}{a:Addr}{o u:HO}:upd (upd H a o) a u=upd H a u:=by
 funext b;unfold upd;split<;>rfl
theorem akt{H:Hp}{a b:Addr}{o u:HO}(h:H a=some o)(h':H b=some u)(d:o≠u):a≠b:=by
 intro e;subst e;rw[h] at h';exact d (Option.some.inj h')
theorem bM{H:Hp}{a b:Addr}{o:HO}(h:H a=some o)(h':H b=none):a≠b:=by
 intro e;subst e;rw[h] at h';cases h'
section
variable(P:Program)(w:World)
def dI(H:Hp)(h:Heap)(a:Addr):HO→Prop
 | .lst xs=>xs.length≤sizeLine∧∃(its:List Value) (n:Nat),Vals xs its∧h.get? a=some {cls:=.type "list",data:=.seq its.toArray n}
 | .tup xs=>xs.length≤sizeLine∧∃its:List Value,Vals xs its∧IsTup h a its.toArray
 | .dK kvs=>kvs.length≤sizeLine∧(a==sysModules)=false∧∃vs,KV kvs vs∧h.DictOf (fV P w) a vs
 | .dT kvs=>kvs.length≤sizeLine∧(a==sysModules)=false∧∃xs:List (List Key×Addr×Value),
  Paired (fun(p:List Key×V) (q:List Key×Addr×Value)=>p.1=q.1∧H q.2.1=some (.tup (p.1.map kV))∧RelV p.2 q.2.2) kvs xs∧
  ∃o es ep,h.get? a=some o∧o.ExactDict∧o.data= .dict es ep∧es.toList=xs.map (entryOfKey (tupleKind (fV P w)))∧(xs.map (·.1)).Nodup
 | .set S n=>h.SetOf (intKind P w) a S n
 | .ins C dx fs=>H dx=some (.own a)∧fs.length≤1000∧dx≠a∧h.get? a=some (PySem.W.instObj C dx)∧
  ∃mA,h.Ns1 dx mA∧(∀f,gq (fs.lookup f) (mA f))∧PySem.Within mA (fs.map (·.1))
 | .own _=>∃o,h.get? a=some o
 | .xd fs=>∃mA,h.Ns1 a mA∧∀f,gq (fs.lookup f) (mA f)
 | .rng lo hi=>∃t u v,h.get? a=some {cls:=.type "range",data:=.fields #[.int lo t,.int hi u,.int 1 v]}
 | .fH o u=>h.get? a=some o∧dI H h a u
 | .pQ ps=>h.get? a=some {cls:=.none,data:=.fields ps}
 | .met f x=>h.get? a=some (PySem.W.methodObj (.ref f) (.ref x))
 | .ext φ=>φ h∧(∃o,h.get? a=some o)∧∀h1 h2:Heap,φ h1→(∀o,h1.get? a=some o→h2.get? a=some o)→φ h2
def cI(H:Hp)(h:Heap):Prop:=∀a o,H a=some o→dI P w H h a o
end
section
variable{P:Program}{w:World}{H H':Hp}{h h':Heap}{a:Addr}{o:HO}
theorem dI.lt(x:dI P w H h a o):a<h.objs.size:=by
 cases o with
 |lst xs=>obtain⟨_,_,_,_,e⟩:=x;exact Heap.lt_size e
 |tup xs=>obtain⟨_,_,_,p⟩:=x;exact p.lt
 |dK kvs=>obtain⟨_,_,_,_,o,_,_,e,_⟩:=x;exact Heap.lt_size e
 |dT kvs=>obtain⟨_,_,_,_,o,_,_,e,_⟩:=x;exact Heap.lt_size e
 |set S n=>obtain⟨o,_,_,_,e,_⟩:=x;exact Heap.lt_size e
 |ins C dx fs=>obtain⟨_,_,_,e,_⟩:=x;exact Heap.lt_size e
 |own y=>obtain⟨_,e⟩:=x;exact Heap.lt_size e
 |xd fs=>obtain⟨_,⟨_,_,_,e,_⟩,_⟩:=x;exact Heap.lt_size e
 |rng lo hi=>obtain⟨_,_,_,e⟩:=x;exact Heap.lt_size e
 |fH ob u=>obtain⟨e,_⟩:=x;exact Heap.lt_size e
 |pQ ps=>exact Heap.lt_size (show h.get? a=some _ from x)
 |met f y=>exact Heap.lt_size (show h.get? a=some _ from x)
 |ext φ=>obtain⟨_,⟨_,e⟩,_⟩:=x;exact Heap.lt_size e
theorem Paired.dY{α β:Type}{F G:α→β→Prop}:∀{l₁:List α} {l₂:List β},Paired F l₁ l₂→(∀a b,F a b→G a b)→Paired G l₁ l₂
 |_,_,.nil,_=>.nil
 |_,_,.cons r t,f=>.cons (f _ _ r) (Paired.dY t f)
theorem dI.stay(x:dI P w H h a o)(k:∀b u,(b=a∨H b=some (.own a))→h.get? b=some u→h'.get? b=some u)
 (ho:∀b,H b=some (.own a)→H' b=some (.own a))(ht:∀b xs,H b=some (.tup xs)→H' b=some (.tup xs)):dI P w H' h' a o:=by
 induction o with
 |lst xs=>obtain⟨z,its,n,r,e⟩:=x;exact⟨z,its,n,r,k _ _ (.inl rfl) e⟩
 |tup xs=>obtain⟨z,its,r,ob,e,c⟩:=x;exact⟨z,its,r,ob,k _ _ (.inl rfl) e,c⟩
 |dK kvs=>obtain⟨z,y,vs,r,ob,es,ep,e,c⟩:=x;exact⟨z,y,vs,r,ob,es,ep,k _ _ (.inl rfl) e,c⟩
 |dT kvs=>
  obtain⟨z,y,xs,r,ob,es,ep,e,c⟩:=x
  exact⟨z,y,xs,Paired.dY r fun p q z=>⟨z.1,ht _ _ z.2.1,z.2.2⟩,ob,es,ep,k _ _ (.inl rfl) e,c⟩
 |set S n=>obtain⟨ob,es,ep,t,e,c⟩:=x;exact⟨ob,es,ep,t,k _ _ (.inl rfl) e,c⟩
 |ins C dx fs=>
  obtain⟨d,z,ne,e,mA,⟨od,es,ep,e2,c⟩,r⟩:=x
  exact⟨ho _ d,z,ne,k _ _ (.inl rfl) e,mA,⟨od,es,ep,k _ _ (.inr d) e2,c⟩,r⟩
 |own y=>obtain⟨ob,e⟩:=x;exact⟨ob,k _ _ (.inl rfl) e⟩
 |xd fs=>obtain⟨mA,⟨od,es,ep,e,c⟩,r⟩:=x;exact⟨mA,⟨od,es,ep,k _ _ (.inl rfl) e,c⟩,r⟩
 |rng lo hi=>obtain⟨t,u,v,e⟩:=x;exact⟨t,u,v,k _ _ (.inl rfl) e⟩
 |fH ob u ih=>obtain⟨e,q⟩:=x;exact⟨k _ _ (.inl rfl) e,ih q⟩
 |pQ ps=>
  have e:h.get? a=some {cls:=.none,data:=.fields ps}:=x
  show h'.get? a=some {cls:=.none,data:=.fields ps}
  exact k a _ (.inl rfl) e
 |met f y=>
  have e:h.get? a=some (PySem.W.methodObj (.ref f) (.ref y)):=x
  show h'.get? a=some (PySem.W.methodObj (.ref f) (.ref y))
  exact k a _ (.inl rfl) e
 |ext φ=>obtain⟨p,⟨o,e⟩,st⟩:=x;exact⟨st _ _ p fun o q=>k _ _ (.inl rfl) q,⟨o,k _ _ (.inl rfl) e⟩,st⟩
theorem cI.lt(x:cI P w H h)(e:H a=some o):a<h.objs.size:=(x a o e).lt
theorem cI.fresh(x:cI P w H h)(e:h.objs.size≤a):H a=none:=by
 cases q:H a with
 |none=>rfl
 |some u=>exact absurd (Nat.lt_of_lt_of_le (x.lt q) e) (Nat.lt_irrefl _)
theorem cI.kept(x:cI P w H h)(k:∀b u,h.get? b=some u→h'.get? b=some u):cI P w H h':=fun a o e=>
 (x a o e).stay (fun b u _ q=>k b u q) (fun _ q=>q) fun _ _ q=>q
theorem cI.laid(x:cI P w H h)(k:∀b u,h.get? b=some u→h'.get? b=some u)(hp:h.objs.size≤a)(new:dI P w (upd H a o) h' a o):cI P w (upd H a o) h':=fun b u e=>by
 have hn:=x.fresh hp
 by_cases hb:b=a
 ·subst hb;rw[aC] at e;cases e;exact new
 ·rw[aH hb] at e
  exact(x b u e).stay (fun c v _ q=>k c v q) (fun c q=>by rw[aH (bM q hn)];exact q) fun c xs q=>by rw[aH (bM q hn)];exact q
end
def Rd(H:Hp)(a:Addr)(u:HO):Prop:=H a=some u∨∃o,H a=some (.fH o u)
theorem Rd.ok{P:Program}{w:World}{H:Hp}{h:Heap}{a:Addr}{u:HO}(r:Rd H a u)(x:cI P w H h):dI P w H h a u:=by
 rcases r with r|⟨o,r⟩
 ·exact x a u r
 ·obtain⟨_,q⟩:=x a _ r
  exact q
def vp:Option HO→Prop
 |some (.lst _)=>True
 |some (.dK _)=>True
 |some (.dT _)=>True
 |some (.set _ _)=>True
 |some (.ins _ _ _)=>True
 |some (.ext _)=>True
 |_=>False
section
variable{P:Program}{w:World}{H:Hp}{h h':Heap}{x e:Addr}{o':HO}
theorem cI.write(ok:cI P w H h)(mu:vp (H x))(he:e=x∨H e=some (.own x))(k:∀b u,b≠e→h.get? b=some u→h'.get? b=some u)(heo:∃u,h'.get? e=some u)
 (new:dI P w (upd H x o') h' x o'):cI P w (upd H x o') h':=fun b u q=>by
 have aaS:∀c y,H c=some (.own y)→c≠x:=fun c y r z=>by subst z;rw[r] at mu;exact mu
 have akY:∀c xs,H c=some (.tup xs)→c≠x:=fun c xs r z=>by subst z;rw[r] at mu;exact mu
 by_cases hb:b=x
 ·subst hb;rw[aC] at q;cases q;exact new
 ·rw[aH hb] at q
  by_cases hbe:b=e
  ·have q':H b=some (.own x):=by
    rcases he with z|z
    ·exact absurd (hbe.trans z) hb
    ·rw[hbe];exact z
   rw[q] at q';cases q'
   obtain⟨v,hv⟩:=heo
   exact⟨v,by rw[hbe];exact hv⟩
  ·refine(ok b u q).stay (fun c v hc r=>k c v ?_ r) (fun c r=>by rw[aH (aaS c b r)];exact r) fun c xs r=>by rw[aH (akY c xs r)];exact r
   rcases hc with rfl|hc
   ·exact hbe
   ·rintro rfl
    rcases he with z|z
    ·exact aaS c b hc z
    ·rw[hc] at z;cases z;exact hb rfl
end
structure Un(fs ex:List Addr)(H H':Hp)(h h':Heap):Prop where
 keep:∀b o,h.get? b=some o→H b=none→b∉fs→b∉ex→h'.get? b=some o
 slot:∀b o,h.get? b=some o→H b=none→b∈fs→b∉ex→∃sl,h'.get? b=some {o with slots:=sl}
 free:∀b o,h.get? b=some o→H b=none→b∉ex→H' b=none
 there:∀b o,h.get? b=some o→b∉ex→∃o',h'.get? b=some o'
 tups:∀b xs,H b=some (.tup xs)→H' b=some (.tup xs)
 mD:∀b o u,H b=some (.fH o u)→H' b=some (.fH o u)
 n8:∀b ps,H b=some (.pQ ps)→∃more,H' b=some (.pQ (ps++more))
section
variable{fs fs' ex ex':List Addr}{H H1 H2:Hp}{h h1 h2 h':Heap}{a x e:Addr}{o:HO}
theorem Un.any(u:Un fs ex H H1 h h1){b:Addr}{ob:Obj}(q:h.get? b=some ob)(n:H b=none)(hx:b∉ex):∃sl,h1.get? b=some {ob with slots:=sl}:=by
 by_cases hb:b∈fs
 ·exact u.slot b ob q n hb hx
 ·exact⟨ob.slots,u.keep b ob q n hb hx⟩
theorem Un.kept(k:∀b u,h.get? b=some u→h'.get? b=some u):Un fs ex H H h h':=
 ⟨fun b ob q _ _ _=>k b ob q,fun b ob q _ _ _=>⟨ob.slots,k b ob q⟩,fun _ _ _ n _=>n,fun b ob q _=>⟨ob,k b ob q⟩,fun _ _ q=>q,fun _ _ _ q=>q,fun _ ps q=>⟨#[],by rw[q];simp⟩⟩
theorem Un.refl:Un fs ex H H h h:=Un.kept fun _ _ q=>q
theorem Un.laid(k:∀b u,h.get? b=some u→h'.get? b=some u)(hp:h.objs.size≤a)(hn:H a=none):Un fs ex H (upd H a o) h h' where
 keep:=fun b u q _ _ _=>k b u q
 slot:=fun b u q _ _ _=>⟨u.slots,k b u q⟩
 free:=fun b u q n _=>by rw[aH (Nat.ne_of_lt (Nat.lt_of_lt_of_le (Heap.lt_size q) hp))];exact n
 there:=fun b u q _=>⟨u,k b u q⟩
 tups:=fun b xs q=>by rw[aH (bM q hn)];exact q
 mD:=fun b u xs q=>by rw[aH (bM q hn)];exact q
 n8:=fun b ps q=>⟨#[],by rw[aH (bM q hn),q];simp⟩
theorem Un.write(mu:vp (H x))(he:e=x∨H e=some (.own x))(k:∀b u,b≠e→h.get? b=some u→h'.get? b=some u)(heo:∃u,h'.get? e=some u):Un fs ex H (upd H x o) h h':=by
 have hx:∀b,H b=none→b≠x:=fun b n z=>by subst z;rw[n] at mu;exact mu
 have hb:∀b,H b=none→b≠e:=fun b n z=>by
  subst z
  rcases he with r|r
  ·exact hx b n r
  ·rw[n] at r;cases r
 have hm:∀b u,H b=some u→¬vp (some u)→b≠x:=fun b u q nm z=>by subst z;rw[q] at mu;exact nm mu
 refine⟨fun b u q n _ _=>k b u (hb b n) q,fun b u q n _ _=>⟨u.slots,k b u (hb b n) q⟩,fun b u q n _=>by rw[aH (hx b n)];exact n,fun b u q _=>?_,
  fun b xs q=>by rw[aH (hm b _ q fun z=>z)];exact q,fun b u xs q=>by rw[aH (hm b _ q fun z=>z)];exact q,fun b ps q=>⟨#[],by rw[aH (hm b _ q fun z=>z),q];simp⟩⟩
 by_cases hbe:b=e
 ·subst hbe;exact heo
 ·exact⟨u,k b u hbe q⟩
end
def BZ(h:Heap)(H:Hp):List Addr:=(List.range h.objs.size).filter fun a=>(H a).isSome
def mF(h:Heap)(H:Hp):Heap:=PySem.W.hideAll h (BZ h H)
theorem agc(h:Heap)(H:Hp):(mF h H).objs.size=h.objs.size:=PySem.W.hideAll_size _ _
theorem ahb{h:Heap}{H:Hp}{b:Addr}{o:Obj}(e:h.get? b=some o)(n:H b=none):(mF h H).get? b=some o:=
 PySem.W.hideAll_get _ e fun hm=>by
  have q:(H b).isSome=true:=(List.mem_filter.mp hm).2
  rw[n] at q;simp at q
theorem aii{h:Heap}{H:Hp}{b:Addr}{o:Obj}(e:(mF h H).get? b=some o):h.get? b=some o∧H b=none:=by
 have e':h.get? b=some o:=PySem.W.of_hideAll (BZ h H) e
 refine⟨e',?_⟩
 cases q:H b with
 |none=>rfl
 |some x=>
  have hm:b∈BZ h H:=List.mem_filter.mpr ⟨List.mem_range.mpr (Heap.lt_size e'),by simp[q]⟩
  have z:(mF h H).get? b=none:=PySem.W.hideAll_none (BZ h H) hm
  rw[z] at e;cases e
end L2
namespace L2
open PySem PySem.Spec PyProof.Rows
structure Mod(K:PySem.W.Frag)(mg:Str→Option Value)(base:Heap):Prop where
 vq:K.In base
 glob:base.Ns mainGlobals mg
 blt:∃mb,base.Ns builtinsNs mb∧∀x:Str,x≠"__name__"→mb x=bootBuiltins x
 nolimit:base.NoLimit
structure Cx where
 prog:Program
 w:World
 K:PySem.W.Frag
 mg:Str→Option Value
 base:Heap
 A:Around
 N:List Str
 s_0:Shared
 vA:Hp
 env:Env
 outer:List Env
 stack:List Env
 ex:List Addr
 fn:Str→Bool
 calm:Bool
 pn:List (Addr×Obj)
 xe:Value→Shared→Prop
def frs(l:List Env):List Addr:=l.filterMap (·.frame)
abbrev Cx.fs(X:Cx):List Addr:=frs X.outer
def vB(sc:Scope)(x:Str):Prop:=sc.names.lookup x=some .local∨sc.names.lookup x=some .cell∨sc.names.lookup x=some .free
def Loc(sc:Scope)(x:Str):Prop:=sc.names.lookup x=some .local∨sc.names.lookup x=some .cell
def Look(env:Env)(h:Heap)(m:Str→Option Value)(x:Str)(u:Value):Prop:=
 (env.kindOf x=some .local∧m x=some u)∨((env.kindOf x=some .cell∨env.kindOf x=some .free)∧∃c,env.cells.lookup x=some c∧h.IsCell c (some u))
structure Cx.Ok(X:Cx):Prop where
 mod:Mod X.K X.mg X.base
 kind:X.env.scope.kind= .function
 glob:X.env.globals=mainGlobals
 blt:X.env.builtins=builtinsNs
 above:X.s_0.heap.objs.size≤X.env.locals
 inj:∀x y c,X.env.cells.lookup x=some c→X.env.cells.lookup y=some c→x=y
 has:∀x,(X.env.kindOf x=some .cell∨X.env.kindOf x=some .free)→∃c,X.env.cells.lookup x=some c
 cab:∀x c,X.fn x=true→X.env.cells.lookup x=some c→X.s_0.heap.objs.size≤c
 hd:X.calm=true→X.A.handled=none
 frames:X.A.frames=some X.stack
 stk:X.stack=X.outer∨(X.stack=X.env::X.outer∧X.env.frame=some X.env.locals)
 B_:∀b∈X.ex,b≠X.env.locals∧∀x c,X.env.cells.lookup x=some c→c≠b
 bs:∀b o,X.base.get? b=some o→X.s_0.heap.get? b=some o∧X.vA b=none
 mL:X.base.objs.size≤X.s_0.heap.objs.size
 u9:∀b o,X.base.get? b=some o→b∉X.ex
 u_:∀b∈X.ex,b∉X.fs
 ju:X.s_0.heap.FunFrames X.base X.outer
 pR:∀b∈X.fs,X.vA b=none
structure Inv(X:Cx)(pins:List (Addr×Obj))(σ:List (Option V))(H:Hp)(s:Shared):Prop where
 ok:X.Ok
 os:s.os=X.s_0.os
 bare:AllBare s.gens
 base:Un X.fs X.ex X.vA H X.s_0.heap s.heap
 loc:∃m,s.heap.Ns X.env.locals m∧∀(i:Nat) (x:Str) (v:V),X.N[i]? =some x→σ[i]? =some (some v)→vB X.env.scope x→∃u,RelV v u∧Look X.env s.heap m x u
 cell:∀x c,X.env.cells.lookup x=some c→∃v,s.heap.IsCell c v
 free:H X.env.locals=none
 jl:∀x c,X.env.cells.lookup x=some c→H c=none
 pin:∀p∈X.pn++pins,s.heap.get? p.1=some p.2∧H p.1=none∧p.1≠X.env.locals∧p.1∉X.fs∧∀v,p.2.data≠ .cell v
 hok:cI X.prog X.w H s.heap
 len:σ.length=X.N.length
section
variable{X:Cx}{pins:List (Addr×Obj)}{σ:List (Option V)}{H H':Hp}{s:Shared}{h':Heap}
theorem Cx.Ok.akZ(ok:X.Ok){b:Addr}{o:Obj}(e:X.base.get? b=some o):b∉X.fs:=fun hb=>by
 have:=(ok.ju.mem hb).1
 rw[e] at this;cases this
theorem Inv.bs(I:Inv X pins σ H s):∀b o,X.base.get? b=some o→s.heap.get? b=some o∧H b=none:=fun b o e=>
 ⟨I.base.keep b o (I.ok.bs b o e).1 (I.ok.bs b o e).2 (I.ok.akZ e) (I.ok.u9 b o e),I.base.free b o (I.ok.bs b o e).1 (I.ok.bs b o e).2 (I.ok.u9 b o e)⟩
theorem Inv.bk(I:Inv X pins σ H s):∀b o,X.base.get? b=some o→s.heap.get? b=some o:=fun b o e=>(I.bs b o e).1
theorem Inv.mod(I:Inv X pins σ H s):Mod X.K X.mg X.base:=I.ok.mod
theorem Inv.gQ(I:Inv X pins σ H s):X.K.In s.heap:=I.ok.mod.vq.keeps I.bk
theorem Inv.lt(I:Inv X pins σ H s):X.env.locals<s.heap.objs.size:=let ⟨_,hn,_⟩:=I.loc;hn.lt
theorem Inv.sz(I:Inv X pins σ H s):X.s_0.heap.objs.size≤s.heap.objs.size:=Nat.le_trans I.ok.above (Nat.le_of_lt I.lt)
theorem Inv.ak0(I:Inv X pins σ H s){a:Addr}(h:s.heap.objs.size≤a):a∉X.fs:=fun hb=>by
 obtain⟨_,o,ho,_⟩:=I.ok.ju.mem hb
 exact absurd (Nat.lt_of_lt_of_le (Heap.lt_size ho) (Nat.le_trans I.sz h)) (Nat.lt_irrefl _)
theorem Inv.pU(I:Inv X pins σ H s):∀x c,X.env.cells.lookup x=some c→c≠X.env.locals:=fun x c e z=>by
 obtain⟨v,o,ho,hd⟩:=I.cell x c e
 obtain⟨m,⟨o',es,ep,ho',hd',_⟩,_⟩:=I.loc
 rw[z,ho'] at ho;cases ho;rw[hd'] at hd;cases hd
theorem Inv.ju(I:Inv X pins σ H s):s.heap.FunFrames X.base X.outer:=by
 have all:∀(l:List Env),(∀b∈frs l,b∈X.fs)→X.s_0.heap.FunFrames X.base l→s.heap.FunFrames X.base l:=by
  intro l
  induction l with
  |nil=>intro _ _;trivial
  |cons env r ih=>
   intro hs hl
   obtain⟨hk,⟨L,o,hf,hn,ho,hd⟩,hr⟩:=hl
   have hL:L∈X.fs:=hs L (by unfold frs;rw[List.filterMap_cons,hf];exact List.mem_cons_self)
   obtain⟨sl,e⟩:=I.base.slot L o ho (I.ok.pR L hL) hL fun z=>I.ok.u_ L z hL
   exact⟨hk,⟨L,_,hf,hn,e,hd⟩,ih (fun b hb=>hs b (by unfold frs;rw[List.filterMap_cons,hf];exact List.mem_cons_of_mem _ hb)) hr⟩
 exact all X.outer (fun _ hb=>hb) I.ok.ju
theorem Inv.stack(I:Inv X pins σ H s):s.heap.FunFrames X.base X.stack:=by
 rcases I.ok.stk with e|⟨e,hf⟩
 ·rw[e];exact I.ju
 ·rw[e]
  obtain⟨m,hn,_⟩:=I.loc
  refine .cons (by rw[I.ok.kind];decide) hf hn ?_ I.ju
  exact Heap.get?_none_of_le (Nat.le_trans I.ok.mL I.ok.above)
theorem Inv.Mp(I:Inv X pins σ H s):∀b∈frs X.stack,b∈X.env.locals::X.fs:=fun b hb=>by
 rcases I.ok.stk with e|⟨e,hf⟩
 ·rw[e] at hb;exact List.mem_cons_of_mem _ hb
 ·rw[e] at hb
  unfold frs at hb
  rw[List.filterMap_cons,hf] at hb
  exact hb
theorem Inv.Y5(I:Inv X pins σ H s):∀b∈frs X.stack,H b=none:=fun b hb=>by
 rcases List.mem_cons.mp (I.Mp b hb) with e|hb
 ·rw[e];exact I.free
 ·obtain⟨_,o,ho,_⟩:=I.ok.ju.mem hb
  exact I.base.free b o ho (I.ok.pR b hb) fun z=>I.ok.u_ b z hb
theorem Inv.step{g':Array GenState}{t':Nat}{d':Drawn}{ch:List Addr}(I:Inv X pins σ H s)
 (hch:∀b∈ch,(b∈X.ex∨X.s_0.heap.objs.size≤b)∧b≠X.env.locals∧(∀x c,X.env.cells.lookup x=some c→c≠b)∧∀p∈X.pn++pins,p.1≠b)
 (keep:∀b o,b≠X.env.locals→b∉X.fs→b∉ch→s.heap.get? b=some o→H b=none→h'.get? b=some o)
 (slot:∀b o,b≠X.env.locals→b∈X.fs→b∉ch→s.heap.get? b=some o→H b=none→∃sl,h'.get? b=some {o with slots:=sl})(free:∀b o,b∉ch→s.heap.get? b=some o→H b=none→H' b=none)
 (there:∀b o,b∉ch→s.heap.get? b=some o→∃o',h'.get? b=some o')
 (tups:∀b xs,H b=some (.tup xs)→H' b=some (.tup xs))(mD:∀b o u,H b=some (.fH o u)→H' b=some (.fH o u))(n8:∀b ps,H b=some (.pQ ps)→∃more,H' b=some (.pQ (ps++more)))
 (ns:∀m,s.heap.Ns X.env.locals m→h'.Ns X.env.locals m)(hok:cI X.prog X.w H' h')(hg:AllBare g'):
 Inv X pins σ H' {s with heap:=h',gens:=g',drawn:=d',toks:=t'}:=by
 have neL:∀b o,X.s_0.heap.get? b=some o→b≠X.env.locals:=fun b o e=>Nat.ne_of_lt (Nat.lt_of_lt_of_le (Heap.lt_size e) I.ok.above)
 have Ca:∀b o,X.s_0.heap.get? b=some o→b∉X.ex→b∉ch:=fun b o e hx hb=>by
  rcases(hch b hb).1 with z|z
  ·exact hx z
  ·exact absurd (Nat.lt_of_lt_of_le (Heap.lt_size e) z) (Nat.lt_irrefl _)
 have cellK:∀x c,X.env.cells.lookup x=some c→∀v,s.heap.IsCell c v→h'.IsCell c v:=fun x c e v ⟨o,ho,hd⟩=>by
  have vC:c∉ch:=fun z=>(hch c z).2.2.1 x c e rfl
  by_cases hc:c∈X.fs
  ·obtain⟨sl,q⟩:=slot c o (I.pU x c e) hc vC ho (I.jl x c e)
   exact⟨_,q,hd⟩
  ·exact⟨o,keep c o (I.pU x c e) hc vC ho (I.jl x c e),hd⟩
 refine⟨I.ok,I.os,hg,⟨fun b o e n hb hx=>?_,fun b o e n hb hx=>?_,fun b o e n hx=>?_,fun b o e hx=>?_,fun b xs e=>tups b xs (I.base.tups b xs e),fun b o xs e=>mD b o xs (I.base.mD b o xs e),fun b ps e=>?_⟩,?_,fun x c e=>?_,?_,fun x c e=>?_,fun p hp=>?_,hok,I.len⟩
 ·exact keep b o (neL b o e) hb (Ca b o e hx) (I.base.keep b o e n hb hx) (I.base.free b o e n hx)
 ·obtain⟨sl,e1⟩:=I.base.slot b o e n hb hx
  obtain⟨sl',e2⟩:=slot b _ (neL b o e) hb (Ca b o e hx) e1 (I.base.free b o e n hx)
  exact⟨sl',e2⟩
 ·obtain⟨o',e1⟩:=I.base.there b o e hx
  exact free b o' (Ca b o e hx) e1 (I.base.free b o e n hx)
 ·obtain⟨o',e1⟩:=I.base.there b o e hx
  exact there b o' (Ca b o e hx) e1
 ·obtain⟨m1,e1⟩:=I.base.n8 b ps e
  obtain⟨m2,e2⟩:=n8 b _ e1
  exact⟨m1++m2,by rw[e2,Array.append_assoc]⟩
 ·obtain⟨m,hn,hl⟩:=I.loc
  refine⟨m,ns m hn,fun i x v e1 e2 e3=>?_⟩
  obtain⟨u,r,l⟩:=hl i x v e1 e2 e3
  refine⟨u,r,?_⟩
  rcases l with l|⟨k,c,e,z⟩
  ·exact .inl l
  ·exact .inr ⟨k,c,e,cellK x c e _ z⟩
 ·obtain⟨v,z⟩:=I.cell x c e
  exact⟨v,cellK x c e v z⟩
 ·obtain⟨m,⟨o,_,_,ho,_⟩,_⟩:=I.loc
  exact free _ o (fun z=>(hch _ z).2.1 rfl) ho I.free
 ·obtain⟨v,o,ho,hd⟩:=I.cell x c e
  exact free c o (fun z=>(hch c z).2.2.1 x c e rfl) ho (I.jl x c e)
 ·obtain⟨e,n,ne,nf,d⟩:=I.pin p hp
  have vC:p.1∉ch:=fun z=>(hch p.1 z).2.2.2 p hp rfl
  exact⟨keep p.1 p.2 ne nf vC e n,free p.1 p.2 vC e n,ne,nf,d⟩
theorem Inv.un{t':Nat}(I:Inv X pins σ H s)(u:Un X.fs [] H H' s.heap h')(hok:cI X.prog X.w H' h'):Inv X pins σ H' {s with heap:=h',toks:=t'}:=by
 obtain⟨m,⟨o,es,ep,ho,r⟩,_⟩:=id I.loc
 obtain⟨sl,hL⟩:=u.any ho I.free (by simp)
 exact I.step (g':=s.gens) (d':=s.drawn) (ch:=[]) (fun _ z=>nomatch z) (fun b o _ hb _ e n=>u.keep b o e n hb (by simp)) (fun b o _ hb _ e n=>u.slot b o e n hb (by simp)) (fun b o _ e n=>u.free b o e n (by simp)) (fun b o _ e=>u.there b o e (by simp)) u.tups u.mD u.n8 (fun m' hm=>by
  obtain⟨o',es',ep',ho',r'⟩:=hm
  rw[ho] at ho';cases ho'
  exact⟨_,es',ep',hL,r'⟩) hok I.bare
theorem Inv.call{g':Array GenState}{t':Nat}{d':Drawn}{ch:List Addr}(I:Inv X pins σ H s)(u:Un (frs X.stack) ch H H' s.heap h')(hok:cI X.prog X.w H' h')(hg:AllBare g')
 (hch:∀b∈ch,(b∈X.ex∨X.s_0.heap.objs.size≤b)∧b≠X.env.locals∧(∀x c,X.env.cells.lookup x=some c→c≠b)∧∀p∈X.pn++pins,p.1≠b):
 Inv X pins σ H' {s with heap:=h',gens:=g',drawn:=d',toks:=t'}:=by
 obtain⟨m,⟨o,es,ep,ho,r⟩,_⟩:=id I.loc
 obtain⟨sl,hL⟩:=u.any ho I.free fun z=>(hch _ z).2.1 rfl
 exact I.step (ch:=ch) hch (fun b o hL hb hc e n=>u.keep b o e n (fun z=>(List.mem_cons.mp (I.Mp b z)).elim hL hb) hc) (fun b o _ _ hc e n=>u.any e n hc) (fun b o hc e n=>u.free b o e n hc) (fun b o hc e=>u.there b o e hc) u.tups u.mD u.n8 (fun m' hm=>by
  obtain⟨o',es',ep',ho',r'⟩:=hm
  rw[ho] at ho';cases ho'
  exact⟨_,es',ep',hL,r'⟩) hok hg
theorem Inv.turned{t':Nat}{it:Addr}(I:Inv X pins σ H s)(k:∀b o,b≠it→s.heap.get? b=some o→h'.get? b=some o)(hn:H it=none)(hL:it≠X.env.locals)
 (h1:it∈X.ex∨X.s_0.heap.objs.size≤it)(h2:∀x c,X.env.cells.lookup x=some c→c≠it)(h3:∀p∈X.pn++pins,p.1≠it):Inv X pins σ H {s with heap:=h',toks:=t'}:=by
 have vD:∀b u,H b=some u→b≠it:=fun b u e z=>by rw[z,hn] at e;cases e
 refine I.step (g':=s.gens) (d':=s.drawn) (ch:=[it]) (fun b hb=>?_) (fun b o _ _ hc e _=>k b o (fun z=>hc (by simp[z])) e) (fun b o _ _ hc e _=>⟨o.slots,k b o (fun z=>hc (by simp[z])) e⟩) (fun _ _ _ _ n=>n)
  (fun b o hc e=>⟨o,k b o (fun z=>hc (by simp[z])) e⟩) (fun _ _ e=>e) (fun _ _ _ e=>e) (fun b ps e=>⟨#[],by rw[e];simp⟩) (fun m hm=>?_) (fun b u e=>?_) I.bare
 ·have e:b=it:=by simpa using hb
  subst e
  exact⟨h1,hL,h2,h3⟩
 ·obtain⟨o,es,ep,ho,r⟩:=hm
  exact⟨o,es,ep,k _ o (Ne.symm hL) ho,r⟩
 ·refine(I.hok b u e).stay (fun c v hc q=>k c v ?_ q) (fun _ q=>q) fun _ _ q=>q
  rcases hc with z|z
  ·rw[z];exact vD b u e
  ·exact vD c _ z
theorem Inv.tok(I:Inv X pins σ H s)(t:Nat):Inv X pins σ H {s with toks:=t}:=I.un (h':=s.heap) (t':=t) Un.refl I.hok
theorem Inv.kept{t':Nat}(I:Inv X pins σ H s)(k:∀b u,s.heap.get? b=some u→h'.get? b=some u):Inv X pins σ H {s with heap:=h',toks:=t'}:=I.un (Un.kept k) (I.hok.kept k)
theorem Inv.laid{a:Addr}{o:HO}{t':Nat}(I:Inv X pins σ H s)(k:∀b u,s.heap.get? b=some u→h'.get? b=some u)(hp:s.heap.objs.size≤a)(new:dI X.prog X.w (upd H a o) h' a o):
 Inv X pins σ (upd H a o) {s with heap:=h',toks:=t'}:=I.un (Un.laid k hp (I.hok.fresh hp)) (I.hok.laid k hp new)
theorem Inv.write{x e:Addr}{o:HO}{t':Nat}(I:Inv X pins σ H s)(mu:vp (H x))(he:e=x∨H e=some (.own x))(k:∀b u,b≠e→s.heap.get? b=some u→h'.get? b=some u)(heo:∃u,h'.get? e=some u)
 (new:dI X.prog X.w (upd H x o) h' x o):Inv X pins σ (upd H x o) {s with heap:=h',toks:=t'}:=I.un (Un.write mu he k heo) (I.hok.write mu he k heo new)
theorem Inv.weak{σ':List (Option V)}(I:Inv X pins σ H s)(hl:σ'.length=σ.length)(w:∀(i:Nat) v,σ'[i]? =some (some v)→σ[i]? =some (some v)):Inv X pins σ' H s:=
 ⟨I.ok,I.os,I.bare,I.base,let ⟨m,hn,hl'⟩:=I.loc;⟨m,hn,fun i x v e1 e2 e3=>hl' i x v e1 (w i v e2) e3⟩,I.cell,I.free,I.jl,I.pin,I.hok,hl.trans I.len⟩
theorem Inv.Y6{aat:List (Addr×Obj)}(I:Inv X pins σ H s)(h:∀p∈aat,s.heap.get? p.1=some p.2∧H p.1=none∧p.1≠X.env.locals∧p.1∉X.fs∧∀v,p.2.data≠ .cell v):Inv X aat σ H s:=
 ⟨I.ok,I.os,I.bare,I.base,I.loc,I.cell,I.free,I.jl,fun p hp=>(List.mem_append.mp hp).elim (fun z=>I.pin p (List.mem_append_left _ z)) (h p),I.hok,I.len⟩
theorem Kh{N:List Str}(hN:N.Nodup){i j:Nat}{x:Str}(a:N[i]? =some x)(b:N[j]? =some x):i=j:=by
 obtain⟨h1,e1⟩:=List.getElem?_eq_some_iff.mp a
 obtain⟨h2,e2⟩:=List.getElem?_eq_some_iff.mp b
 exact(List.getElem_inj hN).mp (e1.trans e2.symm)
theorem Wu{M:Model}{A:Around}{E:Value→Shared→Prop}{i:Nat}{x:Str}{v:V}{u:Value}{Q:Unit→Shared→Prop}(I:Inv X pins σ H s)(hN:X.N.Nodup)(hi:X.N[i]? =some x)(hx:Loc X.env.scope x)(r:RelV v u)
 (h:∀s',Inv X pins (σ.set i (some v)) H s'→(∃a,Heap.SameBut a s.heap s'.heap∧(a=X.env.locals∨X.env.cells.lookup x=some a))→Q () s')(hf:X.fn x=true∨X.env.scope.names.lookup x=some .local:=by first|exact .inl rfl|exact .inr rfl|assumption):wpAny M A (storeName X.env x u) Q E s:=by
 obtain⟨m,hn,hl⟩:=id I.loc
 have hcls:(X.env.scope.kind== .class||(X.env.scope.kind== .module&&X.env.locals != X.env.globals))=false:=by rw[I.ok.kind];rfl
 have aaT:i<σ.length:=by rw[I.len];exact(List.getElem?_eq_some_iff.mp hi).1
 have pU:=I.pU
 have tracked:∀{a:Addr} {h':Heap},(∃o,s.heap.get? a=some o∧H a=none)→Heap.SameBut a s.heap h'→cI X.prog X.w H h':=fun {a h'} ha hs b ob e=>by
  obtain⟨_,_,hfree⟩:=ha
  refine(I.hok b ob e).stay (fun c w' hc q=>(hs.2 c ?_).trans q) (fun _ q=>q) fun _ _ q=>q
  rintro rfl
  rcases hc with rfl|hc
  ·rw[hfree] at e;cases e
  ·rw[hfree] at hc;cases hc
 rcases hx with hk|hk
 ·refine wpAny_storeName_local hk hn (fun h' hn' hs=>?_) hcls
  obtain⟨oL,_,_,hoL,_⟩:=id hn
  refine h _ ⟨I.ok,I.os,I.bare,⟨fun b o e n hb hx=>?_,fun b o e n hb hx=>?_,I.base.free,fun b o e hx=>?_,I.base.tups,I.base.mD,I.base.n8⟩,⟨_,hn',fun j y v' e1 e2 e3=>?_⟩,fun y c e=>?_,I.free,I.jl,fun p hp=>?_,tracked ⟨oL,hoL,I.free⟩ hs,by simpa using I.len⟩ ⟨_,hs,.inl rfl⟩
  ·exact(hs.2 b (Nat.ne_of_lt (Nat.lt_of_lt_of_le (Heap.lt_size e) I.ok.above))).trans (I.base.keep b o e n hb hx)
  ·obtain⟨sl,e1⟩:=I.base.slot b o e n hb hx
   exact⟨sl,(hs.2 b (Nat.ne_of_lt (Nat.lt_of_lt_of_le (Heap.lt_size e) I.ok.above))).trans e1⟩
  ·obtain⟨o',e1⟩:=I.base.there b o e hx
   exact⟨o',(hs.2 b (Nat.ne_of_lt (Nat.lt_of_lt_of_le (Heap.lt_size e) I.ok.above))).trans e1⟩
  ·by_cases hj:j=i
   ·subst hj
    rw[hi] at e1;cases e1
    rw[List.getElem?_set_self aaT] at e2
    cases e2
    exact⟨u,r,.inl ⟨hk,by simp⟩⟩
   ·rw[List.getElem?_set_ne (Ne.symm hj)] at e2
    obtain⟨u',r',q⟩:=hl j y v' e1 e2 e3
    refine⟨u',r',?_⟩
    rcases q with⟨k,e⟩|⟨k,c,e,z⟩
    ·refine .inl ⟨k,?_⟩
     have:y≠x:=fun e=>hj (Kh hN e1 (e▸hi))
     simp[this,e]
    ·exact .inr ⟨k,c,e,z.sameBut hs (pU y c e)⟩
  ·obtain⟨w',z⟩:=I.cell y c e
   exact⟨w',z.sameBut hs (pU y c e)⟩
  ·obtain⟨e,n,ne,nf,d⟩:=I.pin p hp
   exact⟨(hs.2 p.1 ne).trans e,n,ne,nf,d⟩
 ·have hfn:X.fn x=true:=by
   rcases hf with z|z
   ·exact z
   ·rw[z] at hk;cases hk
  obtain⟨c,hc⟩:=I.ok.has x (.inl hk)
  obtain⟨w',z⟩:=I.cell x c hc
  refine wpAny_storeName_cell I.ok.kind hk hc z (fun h' hc' hs=>?_)
  obtain⟨oc,hoc,ak1⟩:=id z
  refine h {s with heap:=h'} ⟨I.ok,I.os,I.bare,⟨fun b o e n hb hx=>?_,fun b o e n hb hx=>?_,I.base.free,fun b o e hx=>?_,I.base.tups,I.base.mD,I.base.n8⟩,⟨m,hn.sameBut hs (Ne.symm (pU x c hc)),fun j y v' e1 e2 e3=>?_⟩,fun y c' e=>?_,I.free,I.jl,fun p hp=>?_,tracked ⟨oc,hoc,I.jl x c hc⟩ hs,by simpa using I.len⟩ ⟨c,hs,.inr hc⟩
  ·exact(hs.2 b (Nat.ne_of_lt (Nat.lt_of_lt_of_le (Heap.lt_size e) (I.ok.cab x c hfn hc)))).trans (I.base.keep b o e n hb hx)
  ·obtain⟨sl,e1⟩:=I.base.slot b o e n hb hx
   exact⟨sl,(hs.2 b (Nat.ne_of_lt (Nat.lt_of_lt_of_le (Heap.lt_size e) (I.ok.cab x c hfn hc)))).trans e1⟩
  ·obtain⟨o',e1⟩:=I.base.there b o e hx
   exact⟨o',(hs.2 b (Nat.ne_of_lt (Nat.lt_of_lt_of_le (Heap.lt_size e) (I.ok.cab x c hfn hc)))).trans e1⟩
  ·by_cases hj:j=i
   ·subst hj
    rw[hi] at e1;cases e1
    rw[List.getElem?_set_self aaT] at e2
    cases e2
    exact⟨u,r,.inr ⟨.inl hk,c,hc,hc'⟩⟩
   ·rw[List.getElem?_set_ne (Ne.symm hj)] at e2
    obtain⟨u',r',q⟩:=hl j y v' e1 e2 e3
    refine⟨u',r',?_⟩
    rcases q with q|⟨k,c',e,z'⟩
    ·exact .inl q
    ·refine .inr ⟨k,c',e,z'.sameBut hs ?_⟩
     rintro rfl
     exact hj (Kh hN e1 (I.ok.inj _ _ _ e hc▸hi))
  ·by_cases hcc:c'=c
   ·subst hcc;exact⟨_,hc'⟩
   ·obtain⟨w2,z2⟩:=I.cell y c' e
    exact⟨w2,z2.sameBut hs hcc⟩
  ·obtain⟨e,n,ne,nf,d⟩:=I.pin p hp
   refine⟨(hs.2 p.1 ?_).trans e,n,ne,nf,d⟩
   intro q
   rw[q,hoc] at e
   have q':oc=p.2:=Option.some.inj e
   exact d w' (by rw[←q'];exact ak1)
theorem XR{M:Model}{A:Around}{E:Value→Shared→Prop}{i:Nat}{x:Str}{v:V}{u:Value}{Q:Unit→Shared→Prop}(I:Inv X pins σ H s)(hN:X.N.Nodup)(hi:X.N[i]? =some x)(hx:Loc X.env.scope x)(r:RelV v u)
 (h:∀s',Inv X pins (σ.set i (some v)) H s'→Q () s')(hf:X.fn x=true∨X.env.scope.names.lookup x=some .local:=by first|exact .inl rfl|exact .inr rfl|assumption):wpAny M A (storeName X.env x u) Q E s:=
 Wu I hN hi hx r (fun s' I' _=>h s' I') hf
theorem Inv.call'{s':Shared}{ch:List Addr}(I:Inv X pins σ H s)(ho:s'.os=s.os)(u:Un (frs X.stack) ch H H' s.heap s'.heap)(hok:cI X.prog X.w H' s'.heap)(hg:AllBare s'.gens)
 (hch:∀b∈ch,(b∈X.ex∨X.s_0.heap.objs.size≤b)∧b≠X.env.locals∧(∀x c,X.env.cells.lookup x=some c→c≠b)∧∀p∈X.pn++pins,p.1≠b):Inv X pins σ H' s':=by
 obtain⟨h',g',d',t',o'⟩:=s'
 have e:o'=s.os:=ho
 subst e
 exact I.call (g':=g') (t':=t') (d':=d') u hok hg hch
end
abbrev XK:=Value→Option Addr→Hp→Prop
abbrev St:=List (Option V)
abbrev VK:=V→Hp→Prop
abbrev TE:=St→Hp→VK→Prop
abbrev TT:=St→Hp→(Bool→Hp→Prop)→Prop
abbrev TA:=St→Hp→(List V→Hp→Prop)→Prop
structure Ends where
 nx:St→Hp→Prop
 rt:VK
 bk:St→Hp→Prop:=fun _ _=>False
 ct:St→Hp→Prop:=fun _ _=>False
abbrev TS:=Ends→St→Hp→Prop
def EP(X:Cx)(pins:List (Addr×Obj))(σ:St)(Q:VK)(u:Value)(s':Shared):Prop:=∃v H',Inv X pins σ H' s'∧RelV v u∧Q v H'
def TP(X:Cx)(pins:List (Addr×Obj))(σ:St)(Q:Bool→Hp→Prop)(b:Bool)(s':Shared):Prop:=∃H',Inv X pins σ H' s'∧Q b H'
def AP(X:Cx)(pins:List (Addr×Obj))(σ:St)(Q:List V→Hp→Prop)(us:List Value)(s':Shared):Prop:=∃vs H',Inv X pins σ H' s'∧Vals vs us∧Q vs H'
def SP(X:Cx)(pins:List (Addr×Obj))(D:Ends)(f:Flow)(s':Shared):Prop:=
 match f with
 | .next=>∃σ' H',Inv X pins σ' H' s'∧D.nx σ' H'
 | .brk=>∃σ' H',Inv X pins σ' H' s'∧D.bk σ' H'
 | .cont=>∃σ' H',Inv X pins σ' H' s'∧D.ct σ' H'
 | .ret u=>∃v σ' H',Inv X pins σ' H' s'∧RelV v u∧D.rt v H'
def PE(X:Cx)(e:Expr)(t:TE):Prop:=
 ∀(pins:List (Addr×Obj)) (s:Shared) (σ:St) (H:Hp) (Q:VK),Inv X pins σ H s→t σ H Q→wpAny (model X.prog X.w) X.A (eval e X.env) (EP X pins σ Q) X.xe s
def PT(X:Cx)(e:Expr)(t:TT):Prop:=
 ∀(pins:List (Addr×Obj)) (s:Shared) (σ:St) (H:Hp) (Q:Bool→Hp→Prop),Inv X pins σ H s→t σ H Q→wpAny (model X.prog X.w) X.A (isTrue e X.env (eval e X.env)) (TP X pins σ Q) X.xe s
def PW(X:Cx)(e:Expr)(t:TT):Prop:=
 ∀(whole:Sem Value) (pins:List (Addr×Obj)) (s:Shared) (σ:St) (H:Hp) (Q:Bool→Hp→Prop),Inv X pins σ H s→t σ H Q→wpAny (model X.prog X.w) X.A (isTrue e X.env whole) (TP X pins σ Q) X.xe s
theorem PW.pt{X:Cx}{e:Expr}{t:TT}(h:PW X e t):PT X e t:=h _
def PA(X:Cx)(es:List Expr)(t:TA):Prop:=
 ∀(pos:Pos) (pins:List (Addr×Obj)) (s:Shared) (σ:St) (H:Hp) (Q:List V→Hp→Prop),Inv X pins σ H s→t σ H Q→wpAny (model X.prog X.w) X.A (spliced (backTo pos (starEach es X.env))) (AP X pins σ Q) X.xe s
def PS(X:Cx)(st:Stmt)(t:TS):Prop:=
 ∀(pins:List (Addr×Obj)) (s:Shared) (σ:St) (H:Hp) (D:Ends),Inv X pins σ H s→t D σ H→wpAny (model X.prog X.w) X.A (exec st X.env) (SP X pins D) X.xe s
def gC(X:Cx)(st:List Stmt)(t:TS):Prop:=
 ∀(pins:List (Addr×Obj)) (s:Shared) (σ:St) (H:Hp) (D:Ends),Inv X pins σ H s→t D σ H→wpAny (model X.prog X.w) X.A (execs st X.env) (SP X pins D) X.xe s
theorem aN{α:Type}{t:Sem α}{Q Q':α→Shared→Prop}{M:Model}{A:Around}{E:Value→Shared→Prop}{s:Shared}(h:wpAny M A t Q E s)(hQ:∀a s,Q a s→Q' a s):wpAny M A t Q' E s:=wpAny_mono h hQ fun _ _ x=>x
end L2
namespace L2
open PySem PySem.Spec PyProof.Rows
section
variable{X:Cx}
def aj(i:Nat):TE:=fun σ H Q=>∃v,σ[i]? =some (some v)∧Q v H
def tC(v:V):TE:=fun _ H Q=>Q v H
theorem ajv{i:Nat}{x:Str}{pos:Pos}(hN:X.N[i]? =some x)(hv:vB X.env.scope x)(hd:(x==("__debug__":Str))=false:=by decide)(hcd:(x==("__classdict__":Str))=false:=by decide):PE X (.Name x pos) (aj i):=by
 intro pins s σ H Q I h
 obtain⟨v,e,h⟩:=h
 obtain⟨m,hn,hl⟩:=I.loc
 obtain⟨u,r,l⟩:=hl i x v hN e hv
 have fin:EP X pins σ Q u s:=⟨v,H,I,r,h⟩
 rcases l with⟨hk,hm⟩|⟨hk,c,hc,hcell⟩
 ·exact wpAny_Name (wpAny_loadName_local I.ok.kind hk hn hm fin) hd
 ·rcases hk with hk|hk
  ·exact wpAny_Name (wpAny_loadName_cell I.ok.kind hk hc hcell fin) hd
  ·exact wpAny_Name (wpAny_loadName_free I.ok.kind hk hc hcell fin hcd) hd
theorem aK{i j pos}:PE X (.Constant (.int i) j pos) (tC (.int i)):=fun _ _ _ H _ I h=>wpAny_Constant_int ⟨.int i,H,I.tok _,⟨_,rfl⟩,h⟩
theorem jm{b j pos}:PE X (.Constant (.bool b) j pos) (tC (.bl b)):=fun _ _ _ H _ I h=>Constant_bool ⟨.bl b,H,I,rfl,h⟩
theorem fL{j pos}:PE X (.Constant .none j pos) (tC .non):=fun _ _ _ H _ I h=>Constant_none ⟨.non,H,I,rfl,h⟩
theorem fW{x j pos}:PE X (.Constant (.str x) j pos) (tC (.str x)):=fun _ _ _ H _ I h=>Calls.Constant_str ⟨.str x,H,I.tok _,⟨_,rfl⟩,h⟩
def Gl(X:Cx)(x:Str):Prop:=X.env.kindOf x=some .globalImplicit
theorem zM{E:Value→Shared→Prop}{pins:List (Addr×Obj)}{s:Shared}{σ:St}{H:Hp}{x:Str}{u:Value}{pos:Pos}{Q:Value→Shared→Prop}(I:Inv X pins σ H s)(hg:Gl X x)(hm:X.mg x=some u)(h:Q u s)
 (hd:(x==("__debug__":Str))=false:=by decide):wpAny (model X.prog X.w) X.A (eval (.Name x pos) X.env) Q E s:=
 Calls.Name_function_global I.ok.kind hg (Calls.loadGlobal_global (by rw[I.ok.glob];exact I.mod.glob.keeps I.bk) hm h) hd
theorem lW{E:Value→Shared→Prop}{pins:List (Addr×Obj)}{s:Shared}{σ:St}{H:Hp}{x:Str}{u:Value}{pos:Pos}{Q:Value→Shared→Prop}(I:Inv X pins σ H s)(hg:Gl X x)(hm:X.mg x=none)(hv:bootBuiltins x=some u)(h:Q u s)
 (hn:x≠"__name__":=by decide)(hd:(x==("__debug__":Str))=false:=by decide):wpAny (model X.prog X.w) X.A (eval (.Name x pos) X.env) Q E s:=by
 obtain⟨mb,h1,h2⟩:=I.mod.blt
 exact Calls.Name_function_global I.ok.kind hg (Calls.loadGlobal_builtin (by rw[I.ok.glob];exact I.mod.glob.keeps I.bk) hm (by rw[I.ok.blt];exact h1.keeps I.bk) ((h2 x hn).trans hv) h) hd
theorem aij{x:Str}{v:V}{u:Value}{pos:Pos}(hg:Gl X x)(hm:X.mg x=some u)(r:RelV v u)(hd:(x==("__debug__":Str))=false:=by decide):PE X (.Name x pos) (tC v):=
 fun _ _ _ H _ I h=>zM I hg hm ⟨v,H,I,r,h⟩ hd
variable{a b:Expr}{ta tb:TE}{pos:Pos}
def PC(X:Cx)(op:CmpOp)(a b:Expr)(t:TE):Prop:=
 ∀(pins:List (Addr×Obj)) (s:Shared) (σ:St) (H:Hp) (Q:VK),Inv X pins σ H s→t σ H Q→
  wpAny (model X.prog X.w) X.A (eval a X.env) (fun v s₁=>wpAny (model X.prog X.w) X.A (eval b X.env) (fun u s₂=>wpAny (model X.prog X.w) X.A (compareOp op v u) (EP X pins σ Q) X.xe s₂) X.xe s₁) X.xe s
def tB(t:TE):TT:=fun σ H Q=>t σ H fun x H1=>∃c,x= .bl c∧Q c H1
theorem ajw{op:CmpOp}{t:TE}(h:PC X op a b t)(h1:behindInMarks op b=false:=by first|exact ahc _ (by decide) (by decide)|rfl):PE X (.Compare a [op] [b] pos) t:=fun pins s σ H Q I hw=>wpAny_Compare1 (h pins s σ H Q I hw) h1
theorem nP{op:CmpOp}{t:TE}(h:PC X op a b t)(h1:behindInMarks op b=false:=by first|exact ahc _ (by decide) (by decide)|rfl):PT X (.Compare a [op] [b] pos) (tB t):=by
 intro pins s σ H Q I hw
 refine wpAny_isTrue_Compare1 (aN (h pins s σ H _ I hw) fun v s1 h1=>aN h1 fun u s2 h2=>aN h2 fun c s3 ⟨x,H1,I1,r1,q1⟩=>?_) h1
 obtain⟨d,rfl,q⟩:=q1
 cases r1
 exact wpAny_truthy_bool ⟨H1,I1,q⟩
theorem fC{e:Expr}{t:TE}(h:PE X e t)(he:∀whole,isTrue e X.env whole=(do let v←whole;standAt e.pos;holding [v] (truthy v)):=by intro _;rfl):PT X e (tB t):=by
 intro pins s σ H Q I hw
 refine isTrue_plain (aN (h pins s σ H _ I hw) fun v s1 ⟨x,H1,I1,r1,q1⟩=>?_) (he _)
 obtain⟨d,rfl,q⟩:=q1
 cases r1
 exact wpAny_truthy_bool ⟨H1,I1,q⟩
variable{tA Cd:TT}{rest:List Expr}
def Bm(t u:TT):TT:=fun σ H Q=>t σ H fun c H1=>if c=true then u σ H1 Q else Q false H1
def iZ(t u:TT):TT:=fun σ H Q=>t σ H fun c H1=>if c=true then Q true H1 else u σ H1 Q
def gA(t:TT):TT:=fun σ H Q=>t σ H fun c H1=>Q (!c) H1
theorem Y7(ha:PT X a tA):PW X (.BoolOp .And [a] pos) tA:=by
 intro wh pins s σ H Q I h
 refine isTrue_and (aN (ha pins s σ H Q I h) fun c s1 e=>?_)
 cases c with
 |true=>exact isTrue_and_nil e
 |false=>exact e
theorem pq(ha:PT X a tA):PW X (.BoolOp .Or [a] pos) tA:=by
 intro wh pins s σ H Q I h
 refine isTrue_or (aN (ha pins s σ H Q I h) fun c s1 e=>?_)
 cases c with
 |false=>exact isTrue_or_nil e
 |true=>exact e
theorem Z0(ha:PT X a tA)(hb:PW X (.BoolOp .And (b::rest) pos) Cd):PW X (.BoolOp .And (a::b::rest) pos) (Bm tA Cd):=by
 intro wh pins s σ H Q I h
 refine isTrue_and (aN (ha pins s σ H _ I h) fun c s1 ⟨H1,I1,q1⟩=>?_)
 cases c with
 |true=>exact hb wh pins s1 σ H1 Q I1 q1
 |false=>exact⟨H1,I1,q1⟩
theorem jO(ha:PT X a tA)(hb:PW X (.BoolOp .Or (b::rest) pos) Cd):PW X (.BoolOp .Or (a::b::rest) pos) (iZ tA Cd):=by
 intro wh pins s σ H Q I h
 refine isTrue_or (aN (ha pins s σ H _ I h) fun c s1 ⟨H1,I1,q1⟩=>?_)
 cases c with
 |true=>exact⟨H1,I1,q1⟩
 |false=>exact hb wh pins s1 σ H1 Q I1 q1
theorem ig(ha:PT X a tA):PT X (.UnaryOp .Not a pos) (gA tA):=by
 intro pins s σ H Q I h
 exact isTrue_not (ha pins s σ H (fun c H1=>Q (!c) H1) I h)
def Nz(ta tb:TE):TE:=fun σ H Q=>ta σ H fun x H1=>∃c,x= .bl c∧if c=true then Q (.bl true) H1 else tb σ H1 Q
theorem ajx{op}{t:TE}(h:PE X a t):PE X (.BoolOp op [a] pos) t:=fun pins s σ H Q I hw=>BoolOp_one (h pins s σ H Q I hw)
theorem aku(ha:PE X a ta)(hb:PE X (.BoolOp .Or (b::rest) pos) tb):PE X (.BoolOp .Or (a::b::rest) pos) (Nz ta tb):=by
 intro pins s σ H Q I h
 refine BoolOp_or (aN (ha pins s σ H _ I h) fun v s1 ⟨x,H1,I1,r1,q1⟩=>?_)
 obtain⟨c,rfl,q1⟩:=q1
 cases r1
 refine wpAny_truthy_bool ?_
 cases c with
 |false=>exact hb pins s1 σ H1 Q I1 q1
 |true=>exact⟨.bl true,H1,I1,rfl,q1⟩
def vG(t:TT)(ta tb:TE):TE:=fun σ H Q=>t σ H fun c H1=>if c=true then ta σ H1 Q else tb σ H1 Q
theorem Kl{c:Expr}(hc:PT X c tA)(ha:PE X a ta)(hb:PE X b tb):PE X (.IfExp c a b pos) (vG tA ta tb):=by
 intro pins s σ H Q I h
 refine wpAny_IfExp (aN (hc pins s σ H _ I h) fun d s1 ⟨H1,I1,q1⟩=>?_)
 cases d with
 |true=>exact ha pins s1 σ H1 Q I1 q1
 |false=>exact hb pins s1 σ H1 Q I1 q1
end
end L2
namespace L2
open PySem PySem.Spec PyProof.Rows
def au(K:PySem.W.Frag)(H:Hp)(a:Addr)(xs:List V):Prop:=
 Rd H a (.lst xs)∨
  ∃(o:Obj) (its:Array Value) (n:Nat),K.lookup a=some o∧o.cls= .type "list"∧o.dict=none∧o.data= .seq its n∧its.size≤sizeLine∧Vals xs its.toList
def bK(K:PySem.W.Frag)(H:Hp)(a:Addr)(xs:List V):Prop:=
 Rd H a (.tup xs)∨
  ∃(o:Obj) (its:Array Value) (n:Nat),K.lookup a=some o∧o.cls= .type "tuple"∧o.data= .seq its n∧its.size≤sizeLine∧Vals xs its.toList
def ak2:Value→Option V
 | .none=>some .non
 | .bool b=>some (.bl b)
 | .int i _=>some (.int i)
 | .str x _=>some (.str x)
 | .bytes b _=>some (.gB b)
 | .float b _=>some (.flt b)
 | .ref a=>some (.ref a)
 | .type n=>some (.ty n)
 |_=>none
theorem RelV.abs{x:V}{u:Value}(r:RelV x u):ak2 u=some x:=by
 cases x with
 |non=>cases r;rfl
 |bl _=>cases r;rfl
 |int _=>obtain⟨t,rfl⟩:=r;rfl
 |str _=>obtain⟨t,rfl⟩:=r;rfl
 |gB _=>obtain⟨t,rfl⟩:=r;rfl
 |flt _=>obtain⟨t,rfl⟩:=r;rfl
 |ref _=>cases r;rfl
 |ty _=>cases r;rfl
theorem RelV.inj{x y:V}{u:Value}(r:RelV x u)(q:RelV y u):x=y:=Option.some.inj (r.abs.symm.trans q.abs)
theorem Vals.inj:∀{xs ys:List V} {us:List Value},Vals xs us→Vals ys us→xs=ys
 |_,_,_,.nil,.nil=>rfl
 |_,_,_,.cons r t,.cons r' t'=>by rw[r.inj r',Vals.inj t t']
section
variable{X:Cx}{pins:List (Addr×Obj)}{σ:St}{H:Hp}{s:Shared}{a:Addr}{xs ys:List V}
theorem au.of{K:PySem.W.Frag}(h:H a=some (.lst xs)):au K H a xs:=.inl (.inl h)
theorem bK.of{K:PySem.W.Frag}(h:H a=some (.tup xs)):bK K H a xs:=.inl (.inl h)
theorem Inv.list(I:Inv X pins σ H s)(h:au X.K H a xs):∃its:List Value,Vals xs its∧PlainL s.heap a its.toArray∧xs.length≤sizeLine:=by
 rcases h with h|⟨o,its,n,hk,hc,hd,hs,hz,r⟩
 ·obtain⟨z,its,n,r,e⟩:=h.ok I.hok
  exact⟨its,r,⟨_,n,e,rfl,rfl,rfl⟩,z⟩
 ·refine⟨its.toList,r,⟨o,n,I.gQ a o hk,hc,hd,by simpa using hs⟩,?_⟩
  have e:=r.length
  simp only[Array.length_toList] at e
  omega
theorem Inv.tuple(I:Inv X pins σ H s)(h:bK X.K H a xs):∃its:List Value,Vals xs its∧IsTup s.heap a its.toArray∧xs.length≤sizeLine:=by
 rcases h with h|⟨o,its,n,hk,hc,hs,hz,r⟩
 ·obtain⟨z,its,r,p⟩:=h.ok I.hok
  exact⟨its,r,p,z⟩
 ·refine⟨its.toList,r,⟨o,I.gQ a o hk,hc,n,by simpa using hs⟩,?_⟩
  have e:=r.length
  simp only[Array.length_toList] at e
  omega
theorem Inv.XS(I:Inv X pins σ H s)(h:au X.K H a xs)(h':au X.K H a ys):xs=ys:=by
 obtain⟨its,r,⟨o,n,e,_,_,d⟩,_⟩:=I.list h
 obtain⟨its',r',⟨o',n',e',_,_,d'⟩,_⟩:=I.list h'
 rw[e] at e';cases e'
 rw[d] at d'
 injection d' with d1 _
 have:its=its':=by simpa using congrArg Array.toList d1
 subst this
 exact r.inj r'
theorem Inv.agd(I:Inv X pins σ H s)(h:bK X.K H a xs)(h':bK X.K H a ys):xs=ys:=by
 obtain⟨its,r,⟨o,e,_,n,d⟩,_⟩:=I.tuple h
 obtain⟨its',r',⟨o',e',_,n',d'⟩,_⟩:=I.tuple h'
 rw[e] at e';cases e'
 rw[d] at d'
 injection d' with d1 _
 have:its=its':=by simpa using congrArg Array.toList d1
 subst this
 exact r.inj r'
end
abbrev Cx.wish(X:Cx)(E:Value→Shared→Prop):Cx:={X with xe:=E}
abbrev Cx.pW(X:Cx):Cx:=X.wish fun _ _=>False
theorem Cx.Ok.wish{X:Cx}(ok:X.Ok)(E:Value→Shared→Prop):(X.wish E).Ok:=
 ⟨ok.mod,ok.kind,ok.glob,ok.blt,ok.above,ok.inj,ok.has,ok.cab,ok.hd,ok.frames,ok.stk,ok.B_,ok.bs,ok.mL,ok.u9,ok.u_,ok.ju,ok.pR⟩
theorem Cx.Ok.nQ{X:Cx}{E:Value→Shared→Prop}(ok:(X.wish E).Ok):X.Ok:=
 ⟨ok.mod,ok.kind,ok.glob,ok.blt,ok.above,ok.inj,ok.has,ok.cab,ok.hd,ok.frames,ok.stk,ok.B_,ok.bs,ok.mL,ok.u9,ok.u_,ok.ju,ok.pR⟩
section
variable{X:Cx}{pins:List (Addr×Obj)}{σ:St}{H:Hp}{s:Shared}{E:Value→Shared→Prop}
theorem Inv.wish(I:Inv X pins σ H s)(E:Value→Shared→Prop):Inv (X.wish E) pins σ H s:=⟨I.ok.wish E,I.os,I.bare,I.base,I.loc,I.cell,I.free,I.jl,I.pin,I.hok,I.len⟩
theorem Inv.nQ(I:Inv (X.wish E) pins σ H s):Inv X pins σ H s:=⟨I.ok.nQ,I.os,I.bare,I.base,I.loc,I.cell,I.free,I.jl,I.pin,I.hok,I.len⟩
theorem SP.nQ{D:Ends}{f:Flow}{s':Shared}(h:SP (X.wish E) pins D f s'):SP X pins D f s':=by
 cases f with
 |next=>obtain⟨σ',H',I,q⟩:=h;exact⟨σ',H',I.nQ,q⟩
 |brk=>obtain⟨σ',H',I,q⟩:=h;exact⟨σ',H',I.nQ,q⟩
 |cont=>obtain⟨σ',H',I,q⟩:=h;exact⟨σ',H',I.nQ,q⟩
 |ret u=>obtain⟨v,σ',H',I,r,q⟩:=h;exact⟨v,σ',H',I.nQ,r,q⟩
theorem gC.pW{st:List Stmt}{t:TS}(h:gC X.pW st t):gC X st t:=fun pins s σ H D I hw=>
 wpAny_mono (h pins s σ H D (I.wish _) hw) (fun _ _ q=>q.nQ) fun _ _ z=>False.elim z
end
section
variable{X:Cx}{st:Stmt}{rest:List Stmt}{t u:TS}{e:Expr}{te:TE}{pos:Pos}
def bA:TS:=fun D σ H=>D.nx σ H
def aB(t u:TS):TS:=fun D σ H=>t {D with nx:=u D} σ H
theorem bC:gC X [] bA:=fun _ _ σ H _ I h=>wpAny_execs_nil ⟨σ,H,I,h⟩
theorem aD(h1:PS X st t)(h2:gC X rest u):gC X (st::rest) (aB t u):=by
 intro pins s σ H D I h
 refine wpAny_execs_cons (aN (h1 pins s σ H {D with nx:=u D} I h) fun f s1 q=>?_)
 cases f with
 |next=>
  obtain⟨σ',H',I',q⟩:=q
  exact h2 pins s1 σ' H' D I' q
 |ret v=>exact q
 |brk=>exact q
 |cont=>exact q
theorem aF(h1:PS X st t):gC X [st] t:=by
 intro pins s σ H D I h
 refine wpAny_execs_cons (aN (h1 pins s σ H D I h) fun f s1 q=>?_)
 cases f with
 |next=>exact wpAny_execs_nil q
 |ret v=>exact q
 |brk=>exact q
 |cont=>exact q
theorem Inv.quiet{pins:List (Addr×Obj)}{σ:St}{H:Hp}{s:Shared}(I:Inv X pins σ H s):interactive X.env=false:=by simp[interactive,I.ok.kind]
def iu(te:TE):TS:=fun D σ H=>te σ H fun _ H1=>D.nx σ H1
theorem jK(he:PE X e te)(hs:swapsWith e none pos.line X.env=pure false:=by rfl):PS X (.Expr e pos) (iu te):=by
 intro pins s σ H D I h
 exact wpAny_Expr_any (aN (he pins s σ H _ I h) fun v s1 ⟨x,H1,I1,r1,q1⟩=>⟨σ,H1,I1,q1⟩) I.quiet hs
def aL(te:TE):TS:=fun D σ H=>te σ H D.rt
theorem aM(he:PE X e te):PS X (.Return (some e) pos) (aL te):=by
 intro pins s σ H D I h
 exact wpAny_Return_some (aN (he pins s σ H _ I h) fun v s1 ⟨x,H1,I1,r1,q1⟩=>⟨x,σ,H1,I1,r1,q1⟩)
def bB(c:TT)(t u:TS):TS:=fun D σ H=>c σ H fun b H1=>if b=true then t D σ H1 else u D σ H1
theorem bD{c:Expr}{a b:List Stmt}{tc:TT}(hc:PT X c tc)(ha:gC X a t)(hb:gC X b u):PS X (.If c a b pos) (bB tc t u):=by
 intro pins s σ H D I h
 refine wpAny_If (aN (hc pins s σ H _ I h) fun d s1 ⟨H1,I1,q1⟩=>?_)
 cases d with
 |true=>exact ha pins s1 σ H1 D I1 q1
 |false=>exact hb pins s1 σ H1 D I1 q1
def Z1:TS:=fun _ _ _=>False
theorem ahd:PS X st Z1:=fun _ _ _ _ _ _ h=>h.elim
end
abbrev TG:=V→St→Hp→(St→Hp→Prop)→Prop
abbrev pX:=List V→St→Hp→(St→Hp→Prop)→Prop
def PG(X:Cx)(target:Expr)(t:TG):Prop:=
 ∀(pins:List (Addr×Obj)) (s:Shared) (σ:St) (H:Hp) (v:V) (u:Value) (Q:St→Hp→Prop),Inv X pins σ H s→RelV v u→t v σ H Q→
  wpAny (model X.prog X.w) X.A (assign target X.env u) (fun _ s'=>∃σ' H',Inv X pins σ' H' s'∧Q σ' H') X.xe s
def Cg(X:Cx)(ts:List Expr)(t:pX):Prop:=
 ∀(pins:List (Addr×Obj)) (s:Shared) (σ:St) (H:Hp) (vs:List V) (us:List Value) (Q:St→Hp→Prop),Inv X pins σ H s→Vals vs us→t vs σ H Q→
  wpAny (model X.prog X.w) X.A (assignInOrder ((assignEach ts X.env).map (·.2)) us) (fun _ s'=>∃σ' H',Inv X pins σ' H' s'∧Q σ' H') X.xe s
abbrev NK:=V→V→V→Hp→(Hp→Prop)→Prop
def aaU(X:Cx)(t:NK):Prop:=
 ∀(pins:List (Addr×Obj)) (s:Shared) (σ:St) (H:Hp) (o i v:V) (ov iv u:Value) (Q:Hp→Prop),Inv X pins σ H s→RelV o ov→RelV i iv→RelV v u→t o i v H Q→
  wpAny (model X.prog X.w) X.A (setItem ov iv u) (fun _ s'=>∃H',Inv X pins σ H' s'∧Q H') X.xe s
abbrev Ci:=V→V→Hp→VK→Prop
def PIp(X:Cx)(op:Operator)(t:Ci):Prop:=
 ∀(pins:List (Addr×Obj)) (s:Shared) (σ:St) (H:Hp) (x y:V) (v u:Value) (Q:VK),Inv X pins σ H s→RelV x v→RelV y u→t x y H Q→
  wpAny (model X.prog X.w) X.A (inplaceOp op v u) (EP X pins σ Q) X.xe s
section
variable{X:Cx}{pos:Pos}
def aJ(i:Nat):TG:=fun v σ H Q=>Q (σ.set i (some v)) H
theorem bN{i:Nat}{x:Str}(hN:X.N.Nodup)(hi:X.N[i]? =some x)(hx:Loc X.env.scope x)(hf:X.fn x=true∨X.env.scope.names.lookup x=some .local:=by first|exact .inl rfl|exact .inr rfl|assumption):PG X (.Name x pos) (aJ i):=by
 intro pins s σ H v u Q I r h
 exact wpAny_assign_Name (XR I hN hi hx r (fun s' I'=>⟨_,H,I',h⟩) hf)
def iz:pX:=fun vs σ H Q=>vs=[]∧Q σ H
def dD(t:TG)(u:pX):pX:=fun vs σ H Q=>∃v r,vs=v::r∧t v σ H fun σ' H'=>u r σ' H' Q
theorem lK:Cg X [] iz:=by
 intro pins s σ H vs us Q I r h
 obtain⟨e,h⟩:=h
 subst e
 cases r
 exact assignInOrder_nil ⟨σ,H,I,h⟩
theorem fK{e:Expr}{es:List Expr}{t:TG}{u:pX}(h1:PG X e t)(h2:Cg X es u)
 (hs:(assignEach (e::es) X.env).map (·.2)=assign e X.env::(assignEach es X.env).map (·.2):=by rfl):Cg X (e::es) (dD t u):=by
 intro pins s σ H vs us Q I r h
 obtain⟨v,vr,e1,h⟩:=h
 subst e1
 cases r with
 |cons r rr=>
  rw[hs]
  refine assignInOrder_cons (aN (h1 pins s σ H _ _ _ I r h) fun _ s1 ⟨σ1,H1,I1,q1⟩=>?_)
  exact h2 pins s1 σ1 H1 _ _ Q I1 rr q1
def iB(K:PySem.W.Frag)(n:Nat)(t:pX):TG:=fun v σ H Q=>∃a xs,v= .ref a∧bK K H a xs∧xs.length=n∧t xs σ H Q
theorem lX{es:List Expr}{k:Nat}{t:pX}{n:Nat}(hc:X.calm=true)(h:Cg X es t)
 (hn:(assignEach es X.env).length=n:=by rfl)(hst:(assignEach es X.env).findIdx? (·.1)=none:=by rfl):PG X (.Tuple es k pos) (iB X.K n t):=by
 intro pins s σ H v u Q I r hw
 obtain⟨a,xs,e1,hq,hl,hw⟩:=hw
 subst e1
 cases r
 obtain⟨its,rv,ht,hz⟩:=I.tuple hq
 refine assign_Tuple_tuple (I.ok.hd hc) ht (by simp[hn,←hl,rv.length]) hst fun h' hx=>?_
 have I1:Inv X pins σ H {s with heap:=h'}:=I.kept (t':=s.toks) fun b o e=>hx b o (Nat.ne_of_lt (Heap.lt_size e)) e
 exact h pins _ σ H xs _ Q I1 (by simpa using rv) hw
def aY(te:TE)(g:TG):TS:=fun D σ H=>te σ H fun x H1=>g x σ H1 D.nx
theorem bF{i:Nat}{x:Str}{e:Expr}{te:TE}{pos':Pos}(hN:X.N.Nodup)(hi:X.N[i]? =some x)(hx:Loc X.env.scope x)(he:PE X e te)(hs:swapsWith e (some (.Name x pos')) pos.line X.env=pure false:=by rfl)(hf:X.fn x=true∨X.env.scope.names.lookup x=some .local:=by first|exact .inl rfl|exact .inr rfl|assumption):
 PS X (.Assign [.Name x pos'] e pos) (aY te (aJ i)):=by
 intro pins s σ H D I h
 refine wpAny_Assign_Name (aN (he pins s σ H _ I h) fun v s1 ⟨y,H1,I1,r1,q1⟩=>?_) hs
 exact XR I1 hN hi hx r1 (fun s2 I2=>⟨_,H1,I2,q1⟩) hf
def Ng(to ti te:TE)(Bo:V→V→Hp→VK→Prop)(Cj:Ci)(Bp:NK):TS:=fun D σ H=>to σ H fun o H1=>ti σ H1 fun i H2=>Bo o i H2 fun x H3=>te σ H3 fun y H4=>Cj x y H4 fun z H5=>Bp o i z H5 fun H6=>D.nx σ H6
def aaV(X:Cx)(t:V→V→Hp→VK→Prop):Prop:=
 ∀(pins:List (Addr×Obj)) (s:Shared) (σ:St) (H:Hp) (o i:V) (ov iv:Value) (Q:VK),Inv X pins σ H s→RelV o ov→RelV i iv→t o i H Q→
  wpAny (model X.prog X.w) X.A (getItem ov iv) (EP X pins σ Q) X.xe s
theorem aik{o i e:Expr}{to ti te:TE}{Bo:V→V→Hp→VK→Prop}{Cj:Ci}{Bp:NK}{op:Operator}{tpos:Pos}(ho:PE X o to)(hi:PE X i ti)(hg:aaV X Bo)(he:PE X e te)(hp:PIp X op Cj)(hs:aaU X Bp)
 (ha:∀ov iv new,augStore i ov iv new=(do holding [new,ov,iv] (setItem ov iv new);release [new,ov,iv] [];pure .next):=by intros;rfl):PS X (.AugAssign (.Subscript o i tpos) op e pos) (Ng to ti te Bo Cj Bp):=by
 intro pins s σ H D I h
 refine wpAny_AugAssign_SubscriptAny (aN (ho pins s σ H _ I h) fun ov s1 ⟨x1,H1,I1,r1,q1⟩=>?_) ha
 refine aN (hi pins s1 σ H1 _ I1 q1) fun iv s2 ⟨x2,H2,I2,r2,q2⟩=>?_
 refine aN (hg pins s2 σ H2 x1 x2 ov iv _ I2 r1 r2 q2) fun old s3 ⟨x3,H3,I3,r3,q3⟩=>?_
 refine aN (he pins s3 σ H3 _ I3 q3) fun v s4 ⟨x4,H4,I4,r4,q4⟩=>?_
 refine aN (hp pins s4 σ H4 x3 x4 old v _ I4 r3 r4 q4) fun new s5 ⟨x5,H5,I5,r5,q5⟩=>?_
 exact aN (hs pins s5 σ H5 x1 x2 x5 ov iv new _ I5 r1 r2 r5 q5) fun _ s6 ⟨H6,I6,q6⟩=>⟨σ,H6,I6,q6⟩
def Oh(f:Int→Int→Int):Ci:=fun x y H Q=>∃i j,x= .int i∧y= .int j∧Q (.int (f i j)) H
theorem ajy:PIp X .Add (Oh fun i j=>i+j):=by
 intro pins s σ H x y v u Q I r1 r2 h
 obtain⟨i,j,e1,e2,q⟩:=h
 subst e1;subst e2
 obtain⟨t,rfl⟩:=r1
 obtain⟨t',rfl⟩:=r2
 exact iadd_int ⟨.int _,H,I.tok _,⟨_,rfl⟩,q⟩
end
section
variable{X:Cx}{pos:Pos}
def rA(c:TT)(tb:TS):TS:=fun D σ H=>∃W:Nat→St→Hp→Prop,(∃m,W m σ H)∧∀m σ H,W m σ H→
 c σ H fun b H1=>if b=true then ∃N:St→Hp→Prop,(∀σ' H',N σ' H'→∃m',m'<m∧W m' σ' H')∧tb {D with nx:=N,ct:=N,bk:=D.nx} σ H1 else D.nx σ H1
theorem ux{c:Expr}{body:List Stmt}{tc:TT}{tb:TS}(hp:PassesOwn (model X.prog X.w) X.A X.env X.xe)(hc:PT X c tc)(hb:gC X body tb):PS X (.While c body [] pos) (rA tc tb):=by
 intro pins s σ H D I h
 obtain⟨W,⟨m0,w0⟩,turn⟩:=h
 refine wpAny_While (codeAny_whileLoop (fun n s'=>∃σ' H',Inv X pins σ' H' s'∧W n σ' H') ?_ m0 ⟨σ,H,I,w0⟩)
 rintro n s1 ⟨σ1,H1,I1,w1⟩
 refine wpAny_passesOwn hp (aN (hc pins s1 σ1 H1 _ I1 (turn n σ1 H1 w1)) fun b s2 ⟨H2,I2,q2⟩=>?_)
 cases b with
 |true=>
  obtain⟨N,hN,q2⟩:=q2
  rw[if_pos rfl]
  refine wpAny_passesOwn hp (aN (hb pins s2 σ1 H2 _ I2 q2) fun f s3 q3=>?_)
  cases f with
  |next=>
   obtain⟨σ3,H3,I3,n3⟩:=q3
   obtain⟨m',hm,w3⟩:=hN σ3 H3 n3
   exact⟨m',hm,σ3,H3,I3,w3⟩
  |cont=>
   obtain⟨σ3,H3,I3,n3⟩:=q3
   obtain⟨m',hm,w3⟩:=hN σ3 H3 n3
   exact⟨m',hm,σ3,H3,I3,w3⟩
  |brk=>exact q3
  |ret v=>exact q3
 |false=>
  rw[if_neg Bool.false_ne_true]
  exact wpAny_execs_nil ⟨σ1,H2,I2,q2⟩
end
structure It where
 go:Nat→Hp→Prop
 fY:Nat→Hp→V→Hp→Prop
 stop:Nat→Hp→Prop
def jT(X:Cx)(pins:List (Addr×Obj))(H:Hp)(b:Addr):Prop:=
 H b=none∧b≠X.env.locals∧b∉X.fs∧(b∈X.ex∨X.s_0.heap.objs.size≤b)∧(∀x c,X.env.cells.lookup x=some c→c≠b)∧∀p∈X.pn++pins,p.1≠b
theorem Inv.rY{X:Cx}{pins:List (Addr×Obj)}{σ:St}{H H':Hp}{s:Shared}{b:Addr}(I:Inv X pins σ H s)(hb:s.heap.objs.size≤b)(hn:H' b=none):jT X pins H' b:=by
 refine⟨hn,Nat.ne_of_gt (Nat.lt_of_lt_of_le I.lt hb),I.ak0 hb,.inr (Nat.le_trans I.sz hb),fun x c e z=>?_,fun p hp z=>?_⟩
 ·obtain⟨v,q⟩:=I.cell x c e
  exact absurd (Nat.lt_of_lt_of_le q.lt (by rw[z];exact hb)) (Nat.lt_irrefl _)
 ·exact absurd (Nat.lt_of_lt_of_le (Heap.lt_size (I.pin p hp).1) (by rw[z];exact hb)) (Nat.lt_irrefl _)
structure Turn(P:Program)(w:World)(K:PySem.W.Frag)(tg:Expr)(J:It)(fp:List Addr)(it:Addr)(tn:Nat→Heap→Prop):Prop where
 mem:it∈fp
 obj:∀i h,tn i h→∀b∈fp,∃o,h.get? b=some o∧∀v,o.data≠ .cell v
 keep:∀i h h',tn i h→(∀b∈fp,∀o,h.get? b=some o→h'.get? b=some o)→tn i h'
 item:∀(X:Cx),X.prog=P→X.w=w→X.K=K→X.calm=true→∀(i:Nat) (pins:List (Addr×Obj)) (s:Shared) (σ:St) (H:Hp) (E:Value→Shared→Prop),Inv X pins σ H s→(∀b∈fp,jT X pins H b)→tn i s.heap→J.go i H→
  wpAny (model P w) X.A (pyNext (.ref it)) (fun r s1=>∃u,r=some u∧
   wpAny (model P w) X.A (letOwnedTupleGo tg (.ref it) u) (fun _ s2=>∃x H',Inv X pins σ H' s2∧RelV x u∧J.fY i H x H'∧tn (i+1) s2.heap∧∀b∈fp,H' b=none) E s1) E s
 done:∀(X:Cx),X.prog=P→X.w=w→X.K=K→X.calm=true→∀(i:Nat) (pins:List (Addr×Obj)) (s:Shared) (σ:St) (H:Hp) (E:Value→Shared→Prop),Inv X pins σ H s→(∀b∈fp,jT X pins H b)→tn i s.heap→J.stop i H→
  wpAny (model P w) X.A (pyNext (.ref it)) (fun r s1=>r=none∧Inv X pins σ H s1) E s
 self:∀(A:Around) (i:Nat) (s:Shared) (Q:Value→Shared→Prop) (E:Value→Shared→Prop),tn i s.heap→Q (.ref it) s→wpAny (model P w) A (pyIter (.ref it)) Q E s
abbrev TI:=St→Hp→(It→Hp→Prop)→Prop
def PIE(X:Cx)(pins:List (Addr×Obj))(σ:St)(tg:Expr)(R:It→Hp→Prop)(itv:Value)(s2:Shared):Prop:=
 ∃(it:Addr) (fp:List Addr) (tn:Nat→Heap→Prop) (J:It) (H':Hp),itv= .ref it∧Inv X pins σ H' s2∧Turn X.prog X.w X.K tg J fp it tn∧tn 0 s2.heap∧(∀b∈fp,jT X pins H' b)∧R J H'
def PI(X:Cx)(tg iter:Expr)(wi:TI):Prop:=
 ∀(pins:List (Addr×Obj)) (s:Shared) (σ:St) (H:Hp) (R:It→Hp→Prop),Inv X pins σ H s→wi σ H R→
  wpAny (model X.prog X.w) X.A (eval iter X.env) (fun v s1=>wpAny (model X.prog X.w) X.A (pyIter v) (PIE X pins σ tg R) X.xe s1) X.xe s
theorem Nh{M:Model}{A:Around}{E:Value→Shared→Prop}{s:Shared}{tg:Expr}{it:Addr}{u:Value}{o:Obj}{n:String}{vs:Array Value}{Q:Unit→Shared→Prop}(ho:s.heap.get? it=some o)(hc:o.cls= .type n)(hd:o.data= .fields vs)
 (hn:["enumerate","zip","dict_itemiterator","dict_reverseitemiterator","odict_iterator","itertools.zip_longest","itertools.pairwise"].contains n=false)(hQ:Q () s):wpAny M A (letOwnedTupleGo tg (.ref it) u) Q E s:=by
 unfold letOwnedTupleGo
 cases tg<;>first
  |exact wpAny_pure hQ
  |(cases u<;>first
     |exact wpAny_pure hQ
     |(refine wpAny_bind (wpAny_load ho ?_)
       rw[hc,hd]
       show wpAny M A (if(["enumerate","zip","dict_itemiterator","dict_reverseitemiterator","odict_iterator","itertools.zip_longest","itertools.pairwise"].contains n&&vs[0]? ==some (rawInt _))=true then _ else _) Q E s
       rw[if_neg (by intro h;rw[hn,Bool.false_and] at h;cases h)]
       exact wpAny_pure hQ))
def iH(K:PySem.W.Frag)(a:Addr):It:=
 ⟨fun i H=>∃xs x,au K H a xs∧xs[i]? =some x,fun i H x H'=>H'=H∧∀xs,au K H a xs→xs[i]? =some x,fun i H=>∃xs,au K H a xs∧xs.length≤i⟩
def jB(lo:Int)(n:Nat):It:=⟨fun i _=>i<n,fun i H x H'=>H'=H∧x= .int (lo+i),fun i _=>n≤i⟩
theorem agf{P:Program}{w:World}{K:PySem.W.Frag}{tg:Expr}(a it:Addr):Turn P w K tg (iH K a) [it] it (fun i h=>h.IsListIter it a i) where
 mem:=by simp
 obj:=fun i h st b hb=>by
  have e:b=it:=by simpa using hb
  subst e
  obtain⟨o,e,c,d⟩:=st
  exact⟨o,e,fun v z=>by rw[d] at z;cases z⟩
 keep:=fun i h h' st k=>st.at fun o e=>k it (by simp) o e
 item:=by
  intro X hP hw hK hc i pins s σ H E I hf st hg
  subst hP hw hK
  obtain⟨xs,x,hq,hx⟩:=hg
  obtain⟨its,rv,p,hz⟩:=I.list hq
  obtain⟨u,hu,ru⟩:=rv.get hx
  obtain⟨f0,f1,f2,f3,f4,f5⟩:=hf it (by simp)
  refine wpAny_pyNext_list_item st p.isList (x:=u) (by simpa using hu) fun h' st' sb=>?_
  have I1:Inv X pins σ H {s with heap:=h'}:=I.turned (t':=s.toks) (fun b o hb e=>(sb.2 b hb).trans e) f0 f1 f3 f4 f5
  obtain⟨o,e,c,d⟩:=id st'
  exact⟨u,rfl,Nh (s:={s with heap:=h'}) e c d (by decide) ⟨x,H,I1,ru,⟨rfl,fun ys hy=>by rw[I.XS hy hq];exact hx⟩,st',fun b hb=>(hf b hb).1⟩⟩
 done:=by
  intro X hP hw hK hc i pins s σ H E I hf st hg
  subst hP hw hK
  obtain⟨xs,hq,hx⟩:=hg
  obtain⟨its,rv,p,hz⟩:=I.list hq
  obtain⟨f0,f1,f2,f3,f4,f5⟩:=hf it (by simp)
  have hl:=rv.length
  exact wpAny_pyNext_list_end (I.ok.hd hc) st p.isList (by simp;omega) fun h' eb=>⟨rfl,I.turned (t':=s.toks) (fun b o hb e=>eb b o hb e) f0 f1 f3 f4 f5⟩
 self:=fun _ _ _ _ _ st h=>wpAny_pyIter_listiter st h
theorem ae7{P:Program}{w:World}{K:PySem.W.Frag}{tg:Expr}(it:Addr)(lo:Int)(n:Nat):Turn P w K tg (jB lo n) [it] it (fun i h=>IsRangeIter h it (lo+(i:Nat)*1) ((n:Int) - (i:Nat)) 1) where
 mem:=by simp
 obj:=fun i h st b hb=>by
  have e:b=it:=by simpa using hb
  subst e
  exact⟨_,st,fun v z=>by
   have z':Data.fields _=Data.cell v:=z
   cases z'⟩
 keep:=fun i h h' st k=>k it (by simp) _ st
 item:=by
  intro X hP hw hK hc i pins s σ H E I hf st hg
  subst hP hw hK
  obtain⟨f0,f1,f2,f3,f4,f5⟩:=hf it (by simp)
  have W:=Walks.range (prog:=X.prog) (w:=X.w) (I.ok.hd hc) it lo 1 n
  refine W.item i s _ _ hg st fun v h' tk hv st' kk=>?_
  obtain⟨t,rfl⟩:=hv
  have I1:Inv X pins σ H {s with heap:=h',toks:=tk}:=I.turned (fun b o hb e=>kk b o (by simpa using hb) e) f0 f1 f3 f4 f5
  refine⟨_,rfl,Nh (s:={s with heap:=h',toks:=tk}) (n:="range_iterator") st' rfl rfl (by decide) ⟨.int (lo+i),H,I1,⟨t,?_⟩,⟨rfl,rfl⟩,st',fun b hb=>(hf b hb).1⟩⟩
  rw[Int.mul_one]
 done:=by
  intro X hP hw hK hc i pins s σ H E I hf st hg
  subst hP hw hK
  obtain⟨f0,f1,f2,f3,f4,f5⟩:=hf it (by simp)
  exact wpAny_pyNext_range_end (I.ok.hd hc) st (by have:n≤i:=hg;omega) fun h' eb=>⟨rfl,I.turned (t':=s.toks) (fun b o hb e=>eb b o hb e) f0 f1 f3 f4 f5⟩
 self:=fun _ _ _ _ _ st h=>wpAny_pyIter_rangeiter st h
end L2
namespace L2
open PySem PySem.Spec PyProof.Rows
section
variable{X:Cx}{tg:Expr}
def cU(K:PySem.W.Frag)(tl:TE):TI:=fun σ H R=>tl σ H fun x H1=>∃a,x= .ref a∧(∃xs,au K H1 a xs)∧R (iH K a) H1
theorem cY{l:Expr}{tl:TE}(hl:PE X l tl):PI X tg l (cU X.K tl):=by
 intro pins s σ H R I h
 refine aN (hl pins s σ H _ I h) fun v s1 ⟨x,H1,I1,r1,q1⟩=>?_
 obtain⟨a,e,⟨xs,hq⟩,q⟩:=q1
 subst e
 cases r1
 obtain⟨its,rv,p,hz⟩:=I1.list hq
 refine wpAny_pyIter_list p.isList ?_
 refine⟨s1.heap.objs.size,[s1.heap.objs.size],_,_,H1,rfl,I1.kept (t':=s1.toks) fun b o e=>Heap.get?_push_of_some _ e,agf a _,⟨_,Heap.get?_push_size _ rfl,rfl,rfl⟩,fun b hb=>?_,q⟩
 have e:b=s1.heap.objs.size:=by simpa using hb
 subst e
 exact I1.rY (Nat.le_refl _) (I1.hok.fresh (Nat.le_refl _))
theorem ahe{pins:List (Addr×Obj)}{σ:St}{H:Hp}{s:Shared}{R:It→Hp→Prop}{E:Value→Shared→Prop}{lo hi:Int}{t u v:Tok}{tk:Nat}(I:Inv X pins σ H s)(h1: -(2^62)≤lo)(h2:lo<2^62)(h3: -(2^62)≤hi)(h4:hi<2^62)
 (q:R (jB lo (hi - lo).toNat) H):wpAny (model X.prog X.w) X.A (pyIter (.ref s.heap.objs.size)) (PIE X pins σ tg R) E {s with heap:=s.heap.push {cls:=.type "range",data:=.fields #[.int lo t,.int hi u,.int 1 v]},toks:=tk}:=by
 refine wpAny_pyIter_range (IsRange.new ..) (small_one h1 h2 h3 h4) ?_
 have I1:Inv X pins σ H {s with heap:=s.heap.push {cls:=.type "range",data:=.fields #[.int lo t,.int hi u,.int 1 v]},toks:=tk}:=I.kept fun b o e=>Heap.get?_push_of_some _ e
 refine⟨(s.heap.push {cls:=.type "range",data:=.fields #[.int lo t,.int hi u,.int 1 v]}).objs.size,[(s.heap.push {cls:=.type "range",data:=.fields #[.int lo t,.int hi u,.int 1 v]}).objs.size],_,_,H,rfl,
  I1.kept (t':=tk) fun b o e=>Heap.get?_push_of_some _ e,ae7 _ lo (hi - lo).toNat,?_,fun b hb=>?_,q⟩
 ·have e1:lo+((0:Nat):Int)*1=lo:=by simp
  have e2:(((hi - lo).toNat:Nat):Int) - ((0:Nat):Int)=Builtin.Range.rangeSize lo hi 1:=by rw[rangeSize_one];split<;>omega
  show IsRangeIter _ _ (lo+((0:Nat):Int)*1) ((((hi - lo).toNat:Nat):Int) - ((0:Nat):Int)) 1
  rw[e1,e2]
  exact Heap.get?_push_size _ rfl
 ·have e:b=(s.heap.push {cls:=.type "range",data:=.fields #[.int lo t,.int hi u,.int 1 v]}).objs.size:=by simpa using hb
  subst e
  exact I1.rY (Nat.le_refl _) (I1.hok.fresh (Nat.le_refl _))
def uU(ta:TA):TI:=fun σ H R=>ta σ H fun vs H1=>∃j:Int,vs=[.int j]∧ -(2^62)≤j∧j<2^62∧R (jB 0 j.toNat) H1
theorem yS{a:Expr}{ta:TA}{p pos:Pos}(hg:Gl X "range")(hm:X.mg "range"=none)(ha:PA X [a] ta)(hs:starEach [a] X.env=[(false,eval a X.env)]:=by rfl):PI X tg (.Call (.Name "range" p) [a] [] pos) (uU ta):=by
 intro pins s σ H R I h
 refine Call_ (lW I hg hm boot_range (PyProof.Rows.callWith_type1 (aN (ha pos pins s σ H _ I h) fun us s1 ⟨vs,H1,I1,r1,q1⟩=>?_) hs rfl))
 obtain⟨j,e,q1,q2,q⟩:=q1
 subst e
 cases r1 with
 |cons r rr=>
  cases rr
  obtain⟨t,rfl⟩:=r
  exact call_range_1 (ahe I1 (by omega) (by omega) q1 q2 (by simpa using q))
def eY(wi:TI)(g:TG)(tb:TS):TS:=fun D σ H=>wi σ H fun J H1=>∃W:Nat→Nat→St→Hp→Prop,(∃m,W 0 m σ H1)∧∀i m σ H,W i m σ H→
 (J.stop i H∧D.nx σ H)∨(J.go i H∧∃N:St→Hp→Prop,(∀σ' H',N σ' H'→∃m',m'<m∧W (i+1) m' σ' H')∧∀x H',J.fY i H x H'→g x σ H' fun σ2 H2=>tb {D with nx:=N,ct:=N,bk:=D.nx} σ2 H2)
def uJ(fp:List Addr)(h:Heap):List (Addr×Obj):=fp.filterMap fun b=>(h.get? b).map fun o=>(b,o)
theorem Ja{fp:List Addr}{h:Heap}{b:Addr}{o:Obj}(hb:b∈fp)(e:h.get? b=some o):(b,o)∈uJ fp h:=List.mem_filterMap.mpr ⟨b,hb,by rw[e];rfl⟩
theorem agg{fp:List Addr}{h:Heap}{p:Addr×Obj}(hp:p∈uJ fp h):p.1∈fp∧h.get? p.1=some p.2:=by
 obtain⟨b,hb,e⟩:=List.mem_filterMap.mp hp
 cases q:h.get? b with
 |none=>rw[q] at e;cases e
 |some o=>
  rw[q] at e
  have e':(b,o)=p:=Option.some.inj e
  subst e'
  exact⟨hb,q⟩
theorem Inv.pinned{pins:List (Addr×Obj)}{σ:St}{H:Hp}{s:Shared}{fp:List Addr}(I:Inv X pins σ H s)(hf:∀b∈fp,jT X pins H b)(ho:∀b∈fp,∃o,s.heap.get? b=some o∧∀v,o.data≠ .cell v):Inv X (pins++uJ fp s.heap) σ H s:=
 I.Y6 fun p hp=>(List.mem_append.mp hp).elim (fun z=>I.pin p (List.mem_append_right _ z)) fun z=>by
  obtain⟨hb,e⟩:=agg z
  obtain⟨f0,f1,f2,_⟩:=hf p.1 hb
  obtain⟨o,e',d⟩:=ho p.1 hb
  rw[e] at e';cases e'
  exact⟨e,f0,f1,f2,d⟩
theorem Inv.zu{pins pl:List (Addr×Obj)}{σ:St}{H:Hp}{s:Shared}(I:Inv X (pins++pl) σ H s):Inv X pins σ H s:=I.Y6 fun p hp=>I.pin p (List.mem_append_right _ (List.mem_append_left _ hp))
theorem fD{iter:Expr}{body:List Stmt}{wi:TI}{g:TG}{tb:TS}{pos:Pos}(hp:PassesOwn (model X.prog X.w) X.A X.env X.xe)(hc:X.calm=true)(hi:PI X tg iter wi)(hg:PG X tg g)(hb:gC X body tb)
 (hs:∀x,foldedSetIterable iter X.env x=pure x:=by intro _;rfl):PS X (.For tg iter body [] pos) (eY wi g tb):=by
 intro pins s σ H D I h
 refine wpAny_For (aN (hi pins s σ H _ I h) fun v s1 h1=>aN h1 fun itv s2 h2=>?_) hs
 obtain⟨it,fp,tn,J,H2,e,I2,T,st2,f2,W,⟨m0,w0⟩,turn⟩:=h2
 subst e
 have stat:∀{H':Hp},(∀b∈fp,H' b=none)→∀b∈fp,jT X pins H' b:=fun hn b hb=>⟨hn b hb,(f2 b hb).2⟩
 refine codeAny_forLoop_any (fun n s'=>∃i σ' H',Inv X pins σ' H' s'∧tn i s'.heap∧(∀b∈fp,H' b=none)∧W i n σ' H') ?_ m0 ⟨0,σ,H2,I2,st2,fun b hb=>(f2 b hb).1,w0⟩
 rintro n s3 ⟨i,σ3,H3,I3,st3,fr3,w3⟩
 rcases turn i n σ3 H3 w3 with⟨stop,qn⟩|⟨go,N,hN,step⟩
 ·refine wpAny_passesOwn hp (aN (T.done X rfl rfl rfl hc i pins s3 σ3 H3 X.xe I3 (stat fr3) st3 stop) fun r s4 ⟨hr,I4⟩=>?_)
  subst hr
  exact wpAny_execs_nil ⟨σ3,H3,I4,qn⟩
 ·refine wpAny_passesOwn hp (aN (T.item X rfl rfl rfl hc i pins s3 σ3 H3 X.xe I3 (stat fr3) st3 go) fun r s4 ⟨u,hr,h4⟩=>?_)
  subst hr
  refine wpAny_passesOwn hp (aN h4 fun _ s5 ⟨x,H5,I5,r5,y5,st5,sO⟩=>?_)
  have I5':=I5.pinned (stat sO) (T.obj _ _ st5)
  refine wpAny_passesOwn hp (aN (hg _ s5 σ3 H5 x u _ I5' r5 (step x H5 y5)) fun _ s6 ⟨σ6,H6,I6,q6⟩=>?_)
  refine wpAny_passesOwn hp (aN (hb _ s6 σ6 H6 _ I6 q6) fun f s7 q7=>?_)
  have again:∀{σ7:St} {H7:Hp},Inv X (pins++uJ fp s5.heap) σ7 H7 s7→N σ7 H7→∃m,m<n∧∃i σ' H',Inv X pins σ' H' s7∧tn i s7.heap∧(∀b∈fp,H' b=none)∧W i m σ' H':=fun {σ7 H7} I7 n7=>by
   obtain⟨m',hm,w7⟩:=hN σ7 H7 n7
   refine⟨m',hm,i+1,σ7,H7,I7.zu,T.keep _ _ _ st5 fun b hb o e=>(I7.pin (b,o) (List.mem_append_right _ (List.mem_append_right _ (Ja hb e)))).1,fun b hb=>?_,w7⟩
   obtain⟨o,e,d⟩:=T.obj _ _ st5 b hb
   exact(I7.pin (b,o) (List.mem_append_right _ (List.mem_append_right _ (Ja hb e)))).2.1
  cases f with
  |next=>obtain⟨σ7,H7,I7,n7⟩:=q7;exact again I7 n7
  |cont=>obtain⟨σ7,H7,I7,n7⟩:=q7;exact again I7 n7
  |brk=>obtain⟨σ7,H7,I7,q7⟩:=q7;exact⟨σ7,H7,I7.zu,q7⟩
  |ret v=>obtain⟨x7,σ7,H7,I7,r7,q7⟩:=q7;exact⟨x7,σ7,H7,I7.zu,r7,q7⟩
end
theorem lE{K:PySem.W.Frag}{a:Addr}{xs:List V}{g:TG}{tb:TS}{D:Ends}{σ:St}{H:Hp}(Pv:Nat→St→Hp→Prop)(h0:Pv 0 σ H)(hl:∀i σ H,i≤xs.length→Pv i σ H→au K H a xs)
 (hs:∀i x σ H,xs[i]? =some x→Pv i σ H→g x σ H fun σ2 H2=>tb {D with nx:=Pv (i+1),ct:=Pv (i+1),bk:=D.nx} σ2 H2)(hd:∀σ H,Pv xs.length σ H→D.nx σ H):
 ∃W:Nat→Nat→St→Hp→Prop,(∃m,W 0 m σ H)∧∀i m σ H,W i m σ H→
  ((iH K a).stop i H∧D.nx σ H)∨((iH K a).go i H∧∃N:St→Hp→Prop,(∀σ' H',N σ' H'→∃m',m'<m∧W (i+1) m' σ' H')∧∀x H',(iH K a).fY i H x H'→g x σ H' fun σ2 H2=>tb {D with nx:=N,ct:=N,bk:=D.nx} σ2 H2):=by
 refine⟨fun i m σ H=>m=xs.length - i∧i≤xs.length∧Pv i σ H,⟨xs.length,by simp,Nat.zero_le _,h0⟩,?_⟩
 rintro i m σ H ⟨rfl,hi,p⟩
 have q:=hl i σ H hi p
 by_cases hlt:i<xs.length
 ·refine .inr ⟨⟨xs,xs[i],q,by simp[hlt]⟩,Pv (i+1),fun σ' H' p'=>⟨xs.length - (i+1),by omega,rfl,hlt,p'⟩,fun x H' y=>?_⟩
  obtain⟨e,y⟩:=y
  subst e
  exact hs i x σ _ (y xs q) p
 ·have e:i=xs.length:=by omega
  subst e
  exact .inl ⟨⟨xs,q,Nat.le_refl _⟩,hd σ H p⟩
theorem Wv{lo:Int}{n:Nat}{g:TG}{tb:TS}{D:Ends}{σ:St}{H:Hp}(Pv:Nat→St→Hp→Prop)(h0:Pv 0 σ H)
 (hs:∀i σ H,i<n→Pv i σ H→g (.int (lo+i)) σ H fun σ2 H2=>tb {D with nx:=Pv (i+1),ct:=Pv (i+1),bk:=D.nx} σ2 H2)(hd:∀σ H,Pv n σ H→D.nx σ H):
 ∃W:Nat→Nat→St→Hp→Prop,(∃m,W 0 m σ H)∧∀i m σ H,W i m σ H→
  ((jB lo n).stop i H∧D.nx σ H)∨((jB lo n).go i H∧∃N:St→Hp→Prop,(∀σ' H',N σ' H'→∃m',m'<m∧W (i+1) m' σ' H')∧∀x H',(jB lo n).fY i H x H'→g x σ H' fun σ2 H2=>tb {D with nx:=N,ct:=N,bk:=D.nx} σ2 H2):=by
 refine⟨fun i m σ H=>m=n - i∧i≤n∧Pv i σ H,⟨n,by simp,Nat.zero_le _,h0⟩,?_⟩
 rintro i m σ H ⟨rfl,hi,p⟩
 by_cases hlt:i<n
 ·refine .inr ⟨hlt,Pv (i+1),fun σ' H' p'=>⟨n - (i+1),by omega,rfl,hlt,p'⟩,fun x H' y=>?_⟩
  obtain⟨e,y⟩:=y
  subst e y
  exact hs i σ _ hlt p
 ·have e:i=n:=by omega
  subst e
  exact .inl ⟨Nat.le_refl _,hd σ H p⟩
end L2
namespace L2
open PySem PySem.Spec PyProof.Rows
abbrev R2:=V→V→Hp→VK→Prop
def cP(X:Cx)(f:Value→Value→Sem Value)(r:R2):Prop:=
 ∀(pins:List (Addr×Obj)) (s:Shared) (σ:St) (H:Hp) (x y:V) (v u:Value) (Q:VK),Inv X pins σ H s→RelV x v→RelV y u→r x y H Q→
  wpAny (model X.prog X.w) X.A (f v u) (EP X pins σ Q) X.xe s
def Ck(X:Cx)(f:Value→Sem Value)(r:V→Hp→VK→Prop):Prop:=
 ∀(pins:List (Addr×Obj)) (s:Shared) (σ:St) (H:Hp) (x:V) (v:Value) (Q:VK),Inv X pins σ H s→RelV x v→r x H Q→
  wpAny (model X.prog X.w) X.A (f v) (EP X pins σ Q) X.xe s
def kO(X:Cx)(f:Value)(r:List V→Hp→VK→Prop):Prop:=
 ∀(pins:List (Addr×Obj)) (s:Shared) (σ:St) (H:Hp) (xs:List V) (us:List Value) (Q:VK),Inv X pins σ H s→Vals xs us→r xs H Q→
  wpAny (model X.prog X.w) X.A (call f us) (EP X pins σ Q) X.xe s
def aG(r:R2)(ta tb:TE):TE:=fun σ H Q=>ta σ H fun x H1=>tb σ H1 fun y H2=>r x y H2 Q
def ou(r:V→Hp→VK→Prop)(ta:TE):TE:=fun σ H Q=>ta σ H fun x H1=>r x H1 Q
def rI(C:Int→Int→Prop)(g:Int→Int→V):R2:=fun x y H Q=>∃i j,x= .int i∧y= .int j∧C i j∧Q (g i j) H
def bx(g:Int→Int→V):R2:=fun x y H Q=>∃i j,x= .int i∧y= .int j∧Q (g i j) H
def rU(g:Int→V):V→Hp→VK→Prop:=fun x H Q=>∃i,x= .int i∧Q (g i) H
section
variable{X:Cx}{a b c:Expr}{ta tb tc:TE}{pos:Pos}
theorem NP(ha:PE X a ta)(hb:PE X b tb){pins:List (Addr×Obj)}{s:Shared}{σ:St}{H:Hp}{R:V→V→Hp→Prop}(I:Inv X pins σ H s)
 (h:ta σ H fun x H1=>tb σ H1 fun y H2=>R x y H2){Q:Value→Shared→Prop}{f:Value→Value→Sem Value}
 (hf:∀v u s2 x y H2,Inv X pins σ H2 s2→RelV x v→RelV y u→R x y H2→wpAny (model X.prog X.w) X.A (f v u) Q X.xe s2):
 wpAny (model X.prog X.w) X.A (eval a X.env) (fun v s₁=>wpAny (model X.prog X.w) X.A (eval b X.env) (fun u s₂=>wpAny (model X.prog X.w) X.A (f v u) Q X.xe s₂) X.xe s₁) X.xe s:=by
 refine aN (ha pins s σ H _ I h) fun v s1 ⟨x,H1,I1,r1,q1⟩=>?_
 refine aN (hb pins s1 σ H1 _ I1 q1) fun u s2 ⟨y,H2,I2,r2,q2⟩=>?_
 exact hf v u s2 x y H2 I2 r1 r2 q2
theorem b_{op:Operator}{r:R2}(ho:cP X (binaryOp op) r)(ha:PE X a ta)(hb:PE X b tb):PE X (.BinOp a op b pos) (aG r ta tb):=by
 intro pins s σ H Q I h
 exact wpAny_BinOp (NP ha hb I h fun v u s2 x y H2 I2 rx ry q=>ho pins s2 σ H2 x y v u Q I2 rx ry q)
theorem rG{op:UnaryOp}{r:V→Hp→VK→Prop}(ho:Ck X (unaryOp op) r)(ha:PE X a ta):PE X (.UnaryOp op a pos) (ou r ta):=by
 intro pins s σ H Q I h
 exact UnaryOp_ (aN (ha pins s σ H _ I h) fun v s1 ⟨x,H1,I1,r1,q1⟩=>ho pins s1 σ H1 x v Q I1 r1 q1)
theorem opI{f:Value→Value→Sem Value}{C:Int→Int→Prop}{g:Int→Int→Int}
 (rule:∀(i j:Int) (t u:Tok) (s:Shared) (Q:Value→Shared→Prop) (E:Value→Shared→Prop),C i j→Q (.int (g i j) s.toks) {s with toks:=s.toks+1}→wpAny (model X.prog X.w) X.A (f (.int i t) (.int j u)) Q E s):
 cP X f (rI C fun i j=>.int (g i j)):=by
 intro pins s σ H x y v u Q I rx ry h
 obtain⟨i,j,rfl,rfl,hc,q⟩:=h
 obtain⟨t,rfl⟩:=rx
 obtain⟨t',rfl⟩:=ry
 exact rule i j t t' s _ _ hc ⟨.int (g i j),H,I.tok _,⟨_,rfl⟩,q⟩
theorem vd{f:Value→Value→Sem Value}{g:Int→Int→Int}
 (rule:∀(i j:Int) (t u:Tok) (s:Shared) (Q:Value→Shared→Prop) (E:Value→Shared→Prop),Q (.int (g i j) s.toks) {s with toks:=s.toks+1}→wpAny (model X.prog X.w) X.A (f (.int i t) (.int j u)) Q E s):
 cP X f (bx fun i j=>.int (g i j)):=by
 intro pins s σ H x y v u Q I rx ry h
 obtain⟨i,j,rfl,rfl,q⟩:=h
 obtain⟨t,rfl⟩:=rx
 obtain⟨t',rfl⟩:=ry
 exact rule i j t t' s _ _ ⟨.int (g i j),H,I.tok _,⟨_,rfl⟩,q⟩
theorem Bq{f:Value→Value→Sem Value}{g:Int→Int→Bool}
 (rule:∀(i j:Int) (t u:Tok) (s:Shared) (Q:Value→Shared→Prop) (E:Value→Shared→Prop),Q (.bool (g i j)) s→wpAny (model X.prog X.w) X.A (f (.int i t) (.int j u)) Q E s):
 cP X f (bx fun i j=>.bl (g i j)):=by
 intro pins s σ H x y v u Q I rx ry h
 obtain⟨i,j,rfl,rfl,q⟩:=h
 obtain⟨t,rfl⟩:=rx
 obtain⟨t',rfl⟩:=ry
 exact rule i j t t' s _ _ ⟨.bl (g i j),H,I,rfl,q⟩
def rZ(i j:Int):Prop:=0≤j∧j≤1000000∧i.natAbs<2^64
theorem ae8(k:Nat):(0:Int)≤2^k:=by
 rw[two_pow_cast]
 exact Int.natCast_nonneg _
theorem uK:cP X (binaryOp .Add) (bx fun i j=>.int (i+j)):=vd fun _ _ _ _ _ _ _ q=>add_int q
theorem rB:cP X (binaryOp .Sub) (bx fun i j=>.int (i - j)):=vd fun _ _ _ _ _ _ _ q=>sub_int q
theorem uL:cP X (binaryOp .LShift) (rI rZ fun i j=>.int (i*2^j.toNat)):=opI fun _ _ _ _ _ _ _ hc q=>lshift_int_small hc.1 hc.2.1 hc.2.2 q
theorem ajz:cP X (binaryOp .RShift) (rI (fun _ j=>0≤j) fun i j=>.int (i / 2^j.toNat)):=opI fun i j _ _ _ _ _ hc q=>
 rshift_int hc (by rw[Int.fdiv_eq_ediv_of_nonneg i (ae8 _)];exact q)
theorem pA:cP X (binaryOp .BitAnd) (bx fun i j=>.int (Builtin.bitAnd i j)):=vd fun _ _ _ _ _ _ _ q=>and_int q
theorem Ni:cP X (binaryOp .BitOr) (bx fun i j=>.int (Builtin.bitOr i j)):=vd fun _ _ _ _ _ _ _ q=>or_int q
theorem Af:cP X (binaryOp .BitXor) (bx fun i j=>.int (Builtin.bitXor i j)):=vd fun _ _ _ _ _ _ _ q=>xor_int q
theorem unI{f:Value→Sem Value}{g:Int→Int}
 (rule:∀(i:Int) (t:Tok) (s:Shared) (Q:Value→Shared→Prop) (E:Value→Shared→Prop),Q (.int (g i) s.toks) {s with toks:=s.toks+1}→wpAny (model X.prog X.w) X.A (f (.int i t)) Q E s):
 Ck X f (rU fun i=>.int (g i)):=by
 intro pins s σ H x v Q I rx h
 obtain⟨i,rfl,q⟩:=h
 obtain⟨t,rfl⟩:=rx
 exact rule i t s _ _ ⟨.int (g i),H,I.tok _,⟨_,rfl⟩,q⟩
theorem uM:Ck X (unaryOp .USub) (rU fun i=>.int (-i)):=unI fun _ _ _ _ _ q=>neg_int q
theorem ajA:Ck X (unaryOp .Invert) (rU fun i=>.int (Builtin.bitNot i)):=unI fun _ _ _ _ _ q=>invert_int q
end
def jw:V→V→Bool
 | .non,.non=>true| .non,.int _=>true| .int _,.non=>true| .non,.bl _=>true| .bl _,.non=>true| .non,.str _=>true| .str _,.non=>true
 | .int _,.int _=>true| .bl _,.bl _=>true| .str _,.str _=>true| .gB _,.gB _=>true
 | .int _,.str _=>true| .str _,.int _=>true| .bl _,.str _=>true| .str _,.bl _=>true
 |_,_=>false
def dh:R2:=fun x y H Q=>jw x y=true∧Q (.bl (decide (x=y))) H
def gU:R2:=fun x y H Q=>jw x y=true∧Q (.bl (!decide (x=y))) H
theorem Y8{i j:Int}:decide (V.int i=V.int j)=(i==j):=by
 rw[Bool.eq_iff_iff]
 simp
theorem Z2{i j:Bool}:decide (V.bl i=V.bl j)=(i==j):=by
 rw[Bool.eq_iff_iff]
 simp
theorem Y9{i j:Str}:decide (V.str i=V.str j)=(i==j):=by
 rw[Bool.eq_iff_iff]
 simp
theorem Y_{i j:Array UInt8}:decide (V.gB i=V.gB j)=(i.toList==j.toList):=by
 rw[Bool.eq_iff_iff]
 cases i
 cases j
 simp
section
variable{X:Cx}{a b c:Expr}{ta tb tc:TE}{pos:Pos}
theorem cJ{pins:List (Addr×Obj)}{σ:St}{H:Hp}{s:Shared}{Q:VK}{k k':Bool}(I:Inv X pins σ H s)(q:Q (.bl k) H)(e:k=k'):EP X pins σ Q (.bool k') s:=by
 subst e
 exact⟨.bl k,H,I,rfl,q⟩
theorem dJ:cP X (compareOp .Eq) dh:=by
 intro pins s σ H x y v u Q I rx ry h
 obtain⟨hs,q⟩:=h
 cases x with
 |non=>
  cases rx
  cases y with
  |non=>cases ry;exact PySem.EqNone.eq_none_none (cJ I q (by simp))
  |bl j=>cases ry;exact PySem.EqNone.eq_none_bool (cJ I q (by simp))
  |int j=>obtain⟨t',rfl⟩:=ry;exact PySem.EqNone.eq_none_int (cJ I q (by simp))
  |str j=>obtain⟨t',rfl⟩:=ry;exact PySem.EqNone.eq_none_str (cJ I q (by simp))
  |_=>exact absurd (show false=true from hs) Bool.false_ne_true
 |bl i=>
  cases rx
  cases y with
  |non=>cases ry;exact PySem.EqNone.eq_bool_none (cJ I q (by simp))
  |bl j=>cases ry;exact eq_bool (cJ I q Z2)
  |str j=>obtain⟨t',rfl⟩:=ry;exact PySem.EqMixed.eq_bool_str (cJ I q (by simp))
  |_=>exact absurd (show false=true from hs) Bool.false_ne_true
 |int i=>
  obtain⟨t,rfl⟩:=rx
  cases y with
  |non=>cases ry;exact PySem.EqNone.eq_int_none (cJ I q (by simp))
  |int j=>obtain⟨t',rfl⟩:=ry;exact eq_int (cJ I q Y8)
  |str j=>obtain⟨t',rfl⟩:=ry;exact PySem.EqMixed.eq_int_str (cJ I q (by simp))
  |_=>exact absurd (show false=true from hs) Bool.false_ne_true
 |str i=>
  obtain⟨t,rfl⟩:=rx
  cases y with
  |non=>cases ry;exact PySem.EqNone.eq_str_none (cJ I q (by simp))
  |bl j=>cases ry;exact PySem.EqMixed.eq_str_bool (cJ I q (by simp))
  |int j=>obtain⟨t',rfl⟩:=ry;exact PySem.EqMixed.eq_str_int (cJ I q (by simp))
  |str j=>obtain⟨t',rfl⟩:=ry;exact eq_str (cJ I q Y9)
  |_=>exact absurd (show false=true from hs) Bool.false_ne_true
 |gB i=>
  obtain⟨t,rfl⟩:=rx
  cases y with
  |gB j=>obtain⟨t',rfl⟩:=ry;exact PySem.W.eq_bytes (cJ I q Y_)
  |_=>exact absurd (show false=true from hs) Bool.false_ne_true
 |_=>cases y<;>exact absurd (show false=true from hs) Bool.false_ne_true
theorem iT:cP X (compareOp .NotEq) gU:=by
 intro pins s σ H x y v u Q I rx ry h
 obtain⟨hs,q⟩:=h
 cases x with
 |non=>
  cases rx
  cases y with
  |non=>cases ry;exact PySem.EqNone.ne_none_none (cJ I q (by simp))
  |bl j=>cases ry;exact PySem.EqNone.ne_none_bool (cJ I q (by simp))
  |int j=>obtain⟨t',rfl⟩:=ry;exact PySem.EqNone.ne_none_int (cJ I q (by simp))
  |str j=>obtain⟨t',rfl⟩:=ry;exact PySem.EqNone.ne_none_str (cJ I q (by simp))
  |_=>exact absurd (show false=true from hs) Bool.false_ne_true
 |bl i=>
  cases rx
  cases y with
  |non=>cases ry;exact PySem.EqNone.ne_bool_none (cJ I q (by simp))
  |bl j=>cases ry;exact ne_bool (cJ I q (congrArg not Z2))
  |str j=>obtain⟨t',rfl⟩:=ry;exact PySem.EqMixed.ne_bool_str (cJ I q (by simp))
  |_=>exact absurd (show false=true from hs) Bool.false_ne_true
 |int i=>
  obtain⟨t,rfl⟩:=rx
  cases y with
  |non=>cases ry;exact PySem.EqNone.ne_int_none (cJ I q (by simp))
  |int j=>obtain⟨t',rfl⟩:=ry;exact ne_int (cJ I q (congrArg not Y8))
  |str j=>obtain⟨t',rfl⟩:=ry;exact PySem.EqMixed.ne_int_str (cJ I q (by simp))
  |_=>exact absurd (show false=true from hs) Bool.false_ne_true
 |str i=>
  obtain⟨t,rfl⟩:=rx
  cases y with
  |non=>cases ry;exact PySem.EqNone.ne_str_none (cJ I q (by simp))
  |bl j=>cases ry;exact PySem.EqMixed.ne_str_bool (cJ I q (by simp))
  |int j=>obtain⟨t',rfl⟩:=ry;exact PySem.EqMixed.ne_str_int (cJ I q (by simp))
  |str j=>obtain⟨t',rfl⟩:=ry;exact ne_str (cJ I q (congrArg not Y9))
  |_=>exact absurd (show false=true from hs) Bool.false_ne_true
 |gB i=>
  obtain⟨t,rfl⟩:=rx
  cases y with
  |gB j=>obtain⟨t',rfl⟩:=ry;exact PySem.W.ne_bytes (cJ I q (congrArg not Y_))
  |_=>exact absurd (show false=true from hs) Bool.false_ne_true
 |_=>cases y<;>exact absurd (show false=true from hs) Bool.false_ne_true
theorem Nj:cP X (compareOp .Lt) (bx fun i j=>.bl (decide (i<j))):=Bq fun _ _ _ _ _ _ _ q=>lt_int q
theorem jP:cP X (compareOp .LtE) (bx fun i j=>.bl (decide (i≤j))):=Bq fun _ _ _ _ _ _ _ q=>le_int q
theorem iw:cP X (compareOp .Gt) (bx fun i j=>.bl (decide (j<i))):=Bq fun _ _ _ _ _ _ _ q=>gt_int q
theorem Nk:cP X (compareOp .GtE) (bx fun i j=>.bl (decide (j≤i))):=Bq fun _ _ _ _ _ _ _ q=>ge_int q
theorem Mq:cP X (compareOp .Is) (fun x y H Q=>y= .non∧Q (.bl (decide (x= .non))) H):=by
 intro pins s σ H x y v u Q I rx ry h
 obtain⟨rfl,q⟩:=h
 cases ry
 refine is_none_gen (cJ I q ?_)
 cases x<;>first
  |(cases rx;rfl)
  |(obtain⟨t,rfl⟩:=rx;rfl)
theorem ail:cP X (compareOp .IsNot) (fun x y H Q=>y= .non∧Q (.bl (!decide (x= .non))) H):=by
 intro pins s σ H x y v u Q I rx ry h
 obtain⟨rfl,q⟩:=h
 cases ry
 refine isnot_none_gen (cJ I q ?_)
 cases x<;>first
  |(cases rx;rfl)
  |(obtain⟨t,rfl⟩:=rx;rfl)
theorem bG(b:Expr){op:CmpOp}(h:op≠ .In:=by decide)(h2:op≠ .NotIn:=by decide):behindInMarks op b=false:=by
 have e1:(op==CmpOp.In)=false:=by cases op<;>first|rfl|exact absurd rfl h
 have e2:(op==CmpOp.NotIn)=false:=by cases op<;>first|rfl|exact absurd rfl h2
 cases b<;>simp[behindInMarks,e1,e2]
theorem oZ{op:CmpOp}{r:R2}(ho:cP X (compareOp op) r)(ha:PE X a ta)(hb:PE X b tb)(hm:behindInMarks op b=false):PE X (.Compare a [op] [b] pos) (aG r ta tb):=by
 intro pins s σ H Q I h
 exact wpAny_Compare1 (NP ha hb I h fun v u s2 x y H2 I2 rx ry q=>ho pins s2 σ H2 x y v u Q I2 rx ry q) hm
def aZ(t:TE):TT:=fun σ H Q=>t σ H fun x H'=>∃k,x= .bl k∧Q k H'
theorem bH{op:CmpOp}{r:R2}(ho:cP X (compareOp op) r)(ha:PE X a ta)(hb:PE X b tb)(hm:behindInMarks op b=false):PT X (.Compare a [op] [b] pos) (aZ (aG r ta tb)):=by
 intro pins s σ H Q I h
 refine wpAny_isTrue_Compare1 (aN (ha pins s σ H _ I h) fun v s1 ⟨x,H1,I1,r1,q1⟩=>aN (hb pins s1 σ H1 _ I1 q1) fun u s2 ⟨y,H2,I2,r2,q2⟩=>
  aN (ho pins s2 σ H2 x y v u _ I2 r1 r2 q2) fun c s3 ⟨z,H3,I3,r3,k,e,q3⟩=>?_) hm
 subst e
 cases r3
 exact wpAny_truthy_bool ⟨H3,I3,q3⟩
def lY(r r':R2)(ta tb tc:TE):TE:=fun σ H Q=>ta σ H fun x H1=>tb σ H1 fun y H2=>r x y H2 fun z H3=>∃k,z= .bl k∧
 (if k=true then tc σ H3 fun w' H4=>r' y w' H4 Q else Q (.bl false) H3)
theorem ahf{op op':CmpOp}{r r':R2}(ho:cP X (compareOp op) r)(ho':cP X (compareOp op') r')(ha:PE X a ta)(hb:PE X b tb)(hc:PE X c tc)
 (hm:lastMarks [op,op'] [b,c]=false:=by with_unfolding_all rfl):PE X (.Compare a [op,op'] [b,c] pos) (lY r r' ta tb tc):=by
 intro pins s σ H Q I h
 refine Compare_chain (aN (ha pins s σ H _ I h) fun v s1 ⟨x,H1,I1,r1,q1⟩=>chain_link (aN (hb pins s1 σ H1 _ I1 q1) fun u s2 ⟨y,H2,I2,r2,q2⟩=>
  aN (ho pins s2 σ H2 x y v u _ I2 r1 r2 q2) fun d s3 ⟨z,H3,I3,r3,k,e,q3⟩=>?_)) hm
 subst e
 cases r3
 refine wpAny_truthy_bool ?_
 cases k with
 |false=>exact ite_ff ⟨.bl false,H3,I3,rfl,q3⟩
 |true=>exact ite_tt (chain_last (aN (hc pins s3 σ H3 _ I3 q3) fun w' s4 ⟨z',H4,I4,r4,q4⟩=>ho' pins s4 σ H4 y z' u w' Q I4 r2 r4 q4))
theorem uy{op op':CmpOp}{r r':R2}(ho:cP X (compareOp op) r)(ho':cP X (compareOp op') r')(ha:PE X a ta)(hb:PE X b tb)(hc:PE X c tc)
 (hm:lastMarks [op,op'] [b,c]=false:=by with_unfolding_all rfl):PT X (.Compare a [op,op'] [b,c] pos) (aZ (lY r r' ta tb tc)):=by
 intro pins s σ H Q I h
 refine isTrue_chain (aN (ha pins s σ H _ I h) fun v s1 ⟨x,H1,I1,r1,q1⟩=>test_link (aN (hb pins s1 σ H1 _ I1 q1) fun u s2 ⟨y,H2,I2,r2,q2⟩=>
  aN (ho pins s2 σ H2 x y v u _ I2 r1 r2 q2) fun d s3 ⟨z,H3,I3,r3,k,e,q3⟩=>?_)) hm
 subst e
 cases r3
 refine wpAny_truthy_bool ?_
 cases k with
 |false=>
  obtain⟨k',e',q'⟩:=q3
  cases e'
  exact ite_ff ⟨H3,I3,q'⟩
 |true=>
  refine ite_tt (test_last (aN (hc pins s3 σ H3 _ I3 q3) fun w' s4 ⟨z',H4,I4,r4,q4⟩=>aN (ho' pins s4 σ H4 y z' u w' _ I4 r2 r4 q4) fun d' s5 ⟨z2,H5,I5,r5,k2,e2,q5⟩=>?_))
  subst e2
  cases r5
  exact wpAny_truthy_bool ⟨H5,I5,q5⟩
theorem pB:(sizeLine:Nat)<2^63:=by rw[sizeLine_eq];decide
theorem vals1{x:V}{us:List Value}(r:Vals [x] us):∃u,us=[u]∧RelV x u:=by
 cases r with
 |cons r1 r2=>cases r2;exact⟨_,rfl,r1⟩
end
end L2
namespace L2
open PySem PySem.Spec PyProof.Rows
structure pI(h:Heap)(x dx C:Addr)(mA:Str→Option Value):Prop where
 obj:h.get? x=some (PySem.W.instObj C dx)
 ns:h.Ns1 dx mA
 ne:dx≠x
theorem agh{h:Heap}{dx:Addr}{mA:Str→Option Value}(n:h.Ns1 dx mA):∃od,h.get? dx=some od∧∀name,PySem.W.lookIn name od=some (mA name):=by
 obtain⟨o,es,ep,ho,hd,hk,_,hm⟩:=n
 refine⟨o,ho,fun name=>?_⟩
 have e:=hm name
 unfold nsFind findBy at e
 rw[←Array.find?_toList] at e
 unfold PySem.W.lookIn
 rw[hd]
 dsimp only
 split
 ·rename_i y q
  rw[q] at e
  exact congrArg some e
 ·rename_i q
  rw[q] at e
  have a:es.toList.any (·.refKey)=false:=by
   rw[List.any_eq_false]
   intro y hy
   obtain⟨z,t,hkey⟩:=hk y (Array.mem_toList_iff.mp hy)
   simp[DictEntry.refKey,hkey]
  have a':¬es.toList.any (·.refKey)=true:=by rw[a];exact Bool.false_ne_true
  rw[if_neg a']
  exact congrArg some e
theorem pI.look{h:Heap}{x dx C:Addr}{mA:Str→Option Value}(I:pI h x dx C mA):∃od,PySem.W.InstAt h x (PySem.W.instObj C dx) C (some od)∧∀name,PySem.W.lookIn name od=some (mA name):=
 let ⟨od,ho,hl⟩:=agh I.ns
 ⟨od,⟨I.obj,rfl,rfl,ho⟩,hl⟩
section
variable{prog:Program}{w:World}{A:Around}{E:Value→Shared→Prop}{s:Shared}{K:PySem.W.Frag}{x dx C f:Addr}{mA:Str→Option Value}{name:Str}{v:Value}
theorem get_map{expr:Bool}{Q:Value→Shared→Prop}(X:K.In s.heap)(I:pI s.heap x dx C mA)(hg:PySem.W.plainGet K C name=true)(hh:PySem.W.hasDictIn K C=true)
 (ha:PySem.W.findIn K (.ref C) name=some none)(hv:mA name=some v)(hv':PySem.W.handedIn v=true)(h:Q v {s with toks:=s.toks+1}):
 wpAny (model prog w) A (getAttr (.ref x) name expr) Q E s:=by
 obtain⟨od,J,hl⟩:=I.look
 exact PySem.W.get_value X J (PySem.W.plainGet_of hg).1 (PySem.W.findObj_own hh ha rfl (by rw[hl,hv])) hv' h
theorem ahg{pl:Sem Bool}{Q:Value×List Value→Shared→Prop}(X:K.In s.heap)(I:pI s.heap x dx C mA)(hg:PySem.W.plainGet K C name=true)
 (hf:PySem.W.findIn K (.ref C) name=some (some (.ref f)))(ht:PySem.W.isFn K (.ref f)=true)(hv:mA name=none)(h:Q (.ref f,[.ref x]) s):
 wpAny (model prog w) A (getMethod (.ref x) name pl) Q E s:=by
 obtain⟨od,J,hl⟩:=I.look
 exact PySem.W.method_fn X J (PySem.W.plainGet_of hg).1 (PySem.W.plainGet_of hg).2 hf (beq_iff_eq.mp ht) (by show(PySem.W.lookIn name od).map (·.isSome)=some false;rw[hl,hv];rfl) h
theorem ain{ns:List Str}{Q:Unit→Shared→Prop}(X:K.In s.heap)(I:pI s.heap x dx C mA)
 (hs:PySem.W.findIn K (.ref C) "__setattr__"=some (some (.builtin "object.__setattr__")))(hp:PySem.W.plainOver K C=true)(ht:PySem.W.takerIn K C name=some none)(hh:PySem.W.hasDictIn K C=true)
 (hw:PySem.Within mA ns)(hsz:ns.length≤sizeLine)
 (h:∀h',pI h' x dx C (fun y=>if y=name then some v else mA y)→Heap.SameBut dx s.heap h'→Q () {s with heap:=h',toks:=s.toks+2}):
 wpAny (model prog w) A (setAttr (.ref x) name v) Q E s:=by
 obtain⟨od,J,hl⟩:=I.look
 refine PySem.W.set_plain X J hs (PySem.W.osa_open (s:={s with toks:=s.toks+1}) (r:=none) X J hp ht fun b=>?_)
 obtain⟨cd,hc,hd'⟩:=PySem.W.any_some hh
 have hx:s.heap.get? x=some ⟨.ref C,some dx,.plain,#[]⟩:=I.obj
 refine wpAny_bind (wpAny_pure (wpAny_bind (wpAny_bind (wpAny_loadPart hx (wpAny_bind (PySem.W.Looks.here (s:={s with toks:=s.toks+1}) (PySem.W.looks_clsIn X hc) ?_))))))
 rw[hd']
 refine wpAny_pure (a:=some dx) (wpAny_bind (wpAny_pure (wpAny_bind ?_)))
 refine wpAny_nsSet1 (s:={s with toks:=s.toks+1}) I.ns fun h' hn2 hs2=>?_
 obtain⟨oD,esD,epD,hoD,hdD,hcD⟩:=hn2.count (PySem.Within.cons name v hw)
 refine wpAny_bind (wpAny_lookBehind hoD (by rw[hdD];exact pastItsLine_dict (Nat.le_trans hcD (by rw[List.length_cons];omega))) ?_)
 exact wpAny_pure (h _ ⟨(hs2.2 _ (Ne.symm I.ne)).trans I.obj,hn2,I.ne⟩ hs2)
theorem ahh{R:Result→Shared→Prop}{vs:List Value}{kw:List (Str×Value)}(X:K.In s.heap)(hm:PySem.W.makesIn K C=true)
 (hi:PySem.W.findIn K (.ref C) "__init__"=some (some (.ref f)))(hf:PySem.W.typeIn K (.ref f)=some (.type "function"))
 (h:codeAny (model prog w) (A.under (.builtin "type.__call__" ⟨.ref C::vs,kw⟩)) (.call (.ref f) ⟨.ref (s.heap.objs.size+1)::vs,kw⟩) (PySem.W.InitBack (s.heap.objs.size+1) R)
   {s with heap:=(s.heap.push PySem.W.emptyDict).push (PySem.W.instObj C s.heap.objs.size)}):
 codeAny (model prog w) A (.call (.ref C) ⟨vs,kw⟩) R s:=by
 obtain⟨hh,g,d,t,os⟩:=s
 exact PySem.W.make_core (PySem.W.makes_of X hm) (PySem.W.looks_findIn X hi) (fun self=>PySem.W.bind_fn X self hf) (.inl rfl) h
end
def cH(f:Str)(v:V):List (Str×V)→List (Str×V)
 | []=>[(f,v)]
 |(g,x)::r=>if g=f then(g,v)::r else(g,x)::cH f v r
theorem U_(f g:Str)(v:V):∀fs:List (Str×V),(cH f v fs).lookup g=if g=f then some v else fs.lookup g
 | []=>by
   show List.lookup g [(f,v)]=_
   by_cases h:g=f
   ·have hb:(g==f)=true:=beq_iff_eq.mpr h
    simp only[List.lookup,hb,if_pos h]
   ·have hb:(g==f)=false:=beq_eq_false_iff_ne.mpr h
    simp only[List.lookup,hb,if_neg h]
 |(k,x)::r=>by
  have ih:=U_ f g v r
  rw[show cH f v ((k,x)::r)=(if k=f then(k,v)::r else(k,x)::cH f v r) from rfl]
  by_cases hk:k=f
  ·rw[if_pos hk]
   by_cases h:g=k
   ·have hb:(g==k)=true:=beq_iff_eq.mpr h
    simp only[List.lookup,hb,if_pos (h.trans hk)]
   ·have hb:(g==k)=false:=beq_eq_false_iff_ne.mpr h
    simp only[List.lookup,hb,if_neg (fun e:g=f=>h (e.trans hk.symm))]
  ·rw[if_neg hk]
   by_cases h:g=k
   ·have hb:(g==k)=true:=beq_iff_eq.mpr h
    simp only[List.lookup,hb,if_neg (fun e:g=f=>hk (h.symm.trans e))]
   ·have hb:(g==k)=false:=beq_eq_false_iff_ne.mpr h
    simp only[List.lookup,hb]
    exact ih
theorem Jx(f:Str)(v:V):∀fs:List (Str×V),f∈(cH f v fs).map (·.1)∧∀g,g∈fs.map (·.1)→g∈(cH f v fs).map (·.1)
 | []=>⟨by simp[cH],fun g h=>by simp at h⟩
 |(k,x)::r=>by
  obtain⟨i1,i2⟩:=Jx f v r
  rw[show cH f v ((k,x)::r)=(if k=f then(k,v)::r else(k,x)::cH f v r) from rfl]
  by_cases hk:k=f
  ·rw[if_pos hk]
   subst hk
   exact⟨by simp,fun g h=>by simpa using h⟩
  ·rw[if_neg hk]
   refine⟨?_,fun g h=>?_⟩
   ·rw[List.map_cons]
    exact List.mem_cons_of_mem _ i1
   ·rw[List.map_cons] at h⊢
    rcases List.mem_cons.mp h with e|e
    ·exact List.mem_cons.mpr (.inl e)
    ·exact List.mem_cons_of_mem _ (i2 g e)
theorem Va(f:Str)(v:V):∀fs:List (Str×V),(cH f v fs).length≤fs.length+1
 | []=>by simp[cH]
 |(k,x)::r=>by
  have ih:=Va f v r
  rw[show cH f v ((k,x)::r)=(if k=f then(k,v)::r else(k,x)::cH f v r) from rfl]
  by_cases hk:k=f
  ·rw[if_pos hk,List.length_cons,List.length_cons];omega
  ·rw[if_neg hk,List.length_cons,List.length_cons];omega
theorem gq.some_of{v:V}{o:Option Value}(r:gq (some v) o):∃u,o=some u∧RelV v u:=by
 cases o with
 |none=>exact(show False from r).elim
 |some u=>exact⟨u,rfl,r⟩
theorem gq.none_of{o:Option Value}(r:gq none o):o=none:=by
 cases o with
 |none=>rfl
 |some u=>exact(show False from r).elim
theorem agi{v:V}{u:Value}(r:RelV v u):PySem.W.handedIn u=true:=by
 cases v with
 |non=>cases(show u=Value.none from r);rfl
 |bl b=>cases(show u=Value.bool b from r);rfl
 |int i=>obtain⟨t,e⟩:=(show ∃t,u=Value.int i t from r);cases e;rfl
 |str x=>obtain⟨t,e⟩:=(show ∃t,u=Value.str x t from r);cases e;rfl
 |gB b=>obtain⟨t,e⟩:=(show ∃t,u=Value.bytes b t from r);cases e;rfl
 |flt b=>obtain⟨t,e⟩:=(show ∃t,u=Value.float b t from r);cases e;rfl
 |ref a=>cases(show u=Value.ref a from r);rfl
 |ty n=>cases(show u=Value.type n from r);rfl
section
variable{P:Program}{w:World}{H H':Hp}{h h':Heap}{a C dx:Addr}{fs fs':List (Str×V)}
theorem K9(hok:cI P w H h)(e:H a=some (.ins C dx fs)):∃mA,pI h a dx C mA∧(∀f,gq (fs.lookup f) (mA f))∧PySem.Within mA (fs.map (·.1))∧fs.length≤1000∧H dx=some (.own a):=by
 obtain⟨d,z,ne,ob,mA,n,r,q⟩:=(show dI P w H h a (.ins C dx fs) from hok a _ e)
 exact⟨mA,⟨ob,n,ne⟩,r,q,z,d⟩
end
structure Cls(K:PySem.W.Frag)(C:Addr):Prop where
 pg:PySem.W.plainGet K C Str.empty=true
 hd:PySem.W.hasDictIn K C=true
 po:PySem.W.plainOver K C=true
 sa:PySem.W.findIn K (.ref C) "__setattr__"=some (some (.builtin "object.__setattr__"))
theorem Cls.get{K:PySem.W.Frag}{C:Addr}(c:Cls K C)(f:Str):PySem.W.plainGet K C f=true:=c.pg
def dz(K:PySem.W.Frag)(C:Addr)(f:Str):Prop:=PySem.W.findIn K (.ref C) f=some none
theorem dz.taker{K:PySem.W.Frag}{C:Addr}{f:Str}(n:dz K C f):PySem.W.takerIn K C f=some none:=by
 unfold PySem.W.takerIn
 rw[show PySem.W.findIn K (.ref C) f=some none from n]
 rfl
structure Meth(K:PySem.W.Frag)(C:Addr)(m:Str)(f:Addr):Prop where
 at_:PySem.W.findIn K (.ref C) m=some (some (.ref f))
 fn:PySem.W.isFn K (.ref f)=true
 kp:PySem.W.keepIn K (.ref f)=true
section
variable{X:Cx}{pins:List (Addr×Obj)}{σ:St}{H:Hp}{s:Shared}{a C dx:Addr}{fs:List (Str×V)}{f:Str}{v:V}{A:Around}{E:Value→Shared→Prop}
theorem Vx{b:Bool}{Q:Value→Shared→Prop}(I:Inv X pins σ H s)(e:H a=some (.ins C dx fs))(c:Cls X.K C)(n:dz X.K C f)(l:fs.lookup f=some v)
 (h:∀u s',Inv X pins σ H s'→RelV v u→Q u s'):wpAny (model X.prog X.w) A (getAttr (.ref a) f b) Q E s:=by
 obtain⟨mA,O,r,_,_,_⟩:=K9 I.hok e
 obtain⟨u,hu,ru⟩:=gq.some_of (v:=v) (o:=mA f) (by rw[←l];exact r f)
 exact get_map I.gQ O (c.get f) c.hd n hu (agi ru) (h u _ (I.tok _) ru)
theorem ae9{m:Str}{g:Addr}{pl:Sem Bool}{Q:Value×List Value→Shared→Prop}(I:Inv X pins σ H s)(e:H a=some (.ins C dx fs))(c:Cls X.K C)(k:Meth X.K C m g)(l:fs.lookup m=none)
 (h:Q (.ref g,[.ref a]) s):wpAny (model X.prog X.w) A (getMethod (.ref a) m pl) Q E s:=by
 obtain⟨mA,O,r,_,_,_⟩:=K9 I.hok e
 have hn:mA m=none:=gq.none_of (by rw[←l];exact r m)
 exact ahg I.gQ O (c.get m) k.at_ k.fn hn h
theorem Vy{y:V}{u:Value}{Q:Unit→Shared→Prop}(I:Inv X pins σ H s)(e:H a=some (.ins C dx fs))(c:Cls X.K C)(n:dz X.K C f)(hl:fs.length<1000)(ry:RelV y u)
 (h:∀s',Inv X pins σ (upd H a (.ins C dx (cH f y fs))) s'→Q () s'):wpAny (model X.prog X.w) A (setAttr (.ref a) f u) Q E s:=by
 obtain⟨mA,O,r,wi,_,ho⟩:=K9 I.hok e
 have hz:(fs.map (·.1)).length≤sizeLine:=by rw[List.length_map,sizeLine_eq];omega
 refine ain I.gQ O c.sa c.po n.taker c.hd wi hz fun h' O' sb=>h _ ?_
 have hd:∃o,h'.get? dx=some o:=let ⟨o,_,_,e',_⟩:=O'.ns;⟨o,e'⟩
 refine I.write (x:=a) (e:=dx) (by rw[e];exact True.intro) (.inr ho) (fun b q hb z=>(sb.2 b hb).trans z) hd ?_
 refine⟨by rw[aH O.ne];exact ho,?_,O.ne,O'.obj,_,O'.ns,fun g=>?_,fun g hg=>?_⟩
 ·have:=Va f y fs;omega
 ·show gq ((cH f y fs).lookup g) (if g=f then some u else mA g)
  rw[U_]
  by_cases q:g=f
  ·rw[if_pos q,if_pos q];exact ry
  ·rw[if_neg q,if_neg q];exact r g
 ·by_cases q:g=f
  ·rw[q];exact(Jx f y fs).1
  ·refine(Jx f y fs).2 g (wi g fun z=>hg ?_)
   show(if g=f then some u else mA g)=none
   rw[if_neg q];exact z
theorem Inv.made(I:Inv X pins σ H s):Inv X pins σ (upd (upd H s.heap.objs.size (.own (s.heap.objs.size+1))) (s.heap.objs.size+1) (.ins C s.heap.objs.size []))
 {s with heap:=(s.heap.push PySem.W.emptyDict).push (PySem.W.instObj C s.heap.objs.size)}:=by
 have e1:(s.heap.push PySem.W.emptyDict).get? s.heap.objs.size=some PySem.W.emptyDict:=Heap.get?_push_size s.heap rfl
 have e2:((s.heap.push PySem.W.emptyDict).push (PySem.W.instObj C s.heap.objs.size)).get? (s.heap.objs.size+1)=some (PySem.W.instObj C s.heap.objs.size):=by
  have:=Heap.get?_push_size (s.heap.push PySem.W.emptyDict) (o:=PySem.W.instObj C s.heap.objs.size) rfl
  rwa [Heap.size_push] at this
 have e3:(s.heap.push PySem.W.emptyDict).Ns s.heap.objs.size (fun _=>none):=⟨PySem.W.emptyDict,#[],_,e1,rfl,(fun e he=>absurd he (by simp)),fun _=>rfl⟩
 have I1:=I.laid (a:=s.heap.objs.size) (o:=.own (s.heap.objs.size+1)) (h':=s.heap.push PySem.W.emptyDict) (t':=s.toks) (fun b u q=>Heap.get?_push_of_some _ q) (Nat.le_refl _) ⟨_,e1⟩
 refine I1.laid (a:=s.heap.objs.size+1) (o:=.ins C s.heap.objs.size []) (t':=s.toks) (fun b u q=>Heap.get?_push_of_some _ q) (Nat.le_of_eq (Heap.size_push _ _)) ?_
 have ne:s.heap.objs.size≠s.heap.objs.size+1:=Nat.ne_of_lt (Nat.lt_succ_self _)
 refine⟨by rw[aH ne,aC],Nat.zero_le _,ne,e2,fun _=>none,(Heap.Ns1.of_empty e3).at fun o q=>Heap.get?_push_of_some _ q,fun _=>True.intro,fun y hy=>absurd rfl hy⟩
theorem aio{prog:Program}{w:World}{env:Env}{e:Expr}{f:Str}{pos:Pos}{s:Shared}{Q:Value→Shared→Prop}(hb:attributeBase e f env (eval e env)=eval e env)
 (h:wpAny (model prog w) A (eval e env) (fun o s₁=>wpAny (model prog w) A (getAttr o f true) Q E s₁) E s):wpAny (model prog w) A (eval (.Attribute e f pos) env) Q E s:=
 Attribute_any_ h (by rw[arm_eval_Attribute,hb])
end
def aP(K:PySem.W.Frag)(ta:TE)(f:Str):TE:=fun σ H Q=>ta σ H fun x H1=>∃a C dx fs v,x= .ref a∧H1 a=some (.ins C dx fs)∧Cls K C∧dz K C f∧fs.lookup f=some v∧Q v H1
def dg(K:PySem.W.Frag)(ta tv:TE)(f:Str):TS:=fun D σ H=>tv σ H fun y H1=>ta σ H1 fun x H2=>∃a C dx fs,x= .ref a∧H2 a=some (.ins C dx fs)∧Cls K C∧dz K C f∧fs.length<1000∧
 D.nx σ (upd H2 a (.ins C dx (cH f y fs)))
def aaW(X:Cx)(op:Operator)(rd:V→V→Hp→VK→Prop):Prop:=
 ∀(pins:List (Addr×Obj)) (s:Shared) (σ:St) (H:Hp) (x y:V) (u v:Value) (Q:VK),Inv X pins σ H s→RelV x u→RelV y v→rd x y H Q→wpAny (model X.prog X.w) X.A (inplaceOp op u v) (EP X pins σ Q) X.xe s
def zN(K:PySem.W.Frag)(ta tv:TE)(rd:V→V→Hp→VK→Prop)(f:Str):TS:=fun D σ H=>ta σ H fun x H1=>∃a C dx fs v,x= .ref a∧H1 a=some (.ins C dx fs)∧Cls K C∧dz K C f∧fs.lookup f=some v∧
 tv σ H1 fun y H2=>rd v y H2 fun z H3=>∃mO fs',H3 a=some (.ins C mO fs')∧fs'.length<1000∧D.nx σ (upd H3 a (.ins C mO (cH f z fs')))
section
variable{X:Cx}{o e value:Expr}{f:Str}{pos pos' tpos:Pos}{ta tv:TE}
theorem aR(he:PE X e ta)(hb:attributeBase e f X.env (eval e X.env)=eval e X.env):PE X (.Attribute e f pos) (aP X.K ta f):=by
 intro pins s σ H Q I h
 refine aio hb (aN (he pins s σ H _ I h) fun u s1 ⟨x,H1,I1,rx,a,C,dx,fs,v,ex,ea,c,n,l,q⟩=>?_)
 subst ex
 obtain rfl:u=Value.ref a:=rx
 exact Vx I1 ea c n l fun u' s2 I2 ru=>⟨v,H1,I2,ru,q⟩
theorem dB(ha:PE X o ta)(hv:PE X value tv)(hs:swapsWith value (some (.Attribute o f pos')) pos.line X.env=pure false):PS X (.Assign [.Attribute o f pos'] value pos) (dg X.K ta tv f):=by
 intro pins s σ H D I h
 refine plainObj_wpAny_Assign_Attribute (aN (hv pins s σ H _ I h) fun u s1 ⟨y,H1,I1,ry,q⟩=>aN (ha pins s1 σ H1 _ I1 q) fun ov s2 ⟨x,H2,I2,rx,a,C,dx,fs,ex,ea,c,n,l,q2⟩=>?_) hs
 subst ex
 obtain rfl:ov=Value.ref a:=rx
 exact Vy I2 ea c n l ry fun s3 I3=>⟨σ,_,I3,q2⟩
theorem Ww{op:Operator}{rd:V→V→Hp→VK→Prop}(ha:PE X o ta)(hv:PE X value tv)(hop:aaW X op rd):PS X (.AugAssign (.Attribute o f tpos) op value pos) (zN X.K ta tv rd f):=by
 intro pins s σ H D I h
 refine wpAny_AugAssign_AttributeAny (aN (ha pins s σ H _ I h) fun ov s1 ⟨x,H1,I1,rx,a,C,dx,fs,v,ex,ea,c,n,l,q⟩=>?_)
 subst ex
 obtain rfl:ov=Value.ref a:=rx
 refine Vx I1 ea c n l fun u s2 I2 ru=>aN (hv pins s2 σ H1 _ I2 q) fun w3 s3 ⟨y,H2,I3,ry,q3⟩=>aN (hop pins s3 σ H2 v y u w3 _ I3 ru ry q3) fun w4 s4 ⟨z,H3,I4,rz,mO,fs',ea',l',q4⟩=>?_
 exact Vy I4 ea' c n l' rz fun s5 I5=>⟨σ,_,I5,q4⟩
def Br:V→V→Hp→VK→Prop:=fun x y H Q=>∃i j,x= .int i∧y= .int j∧Q (.int (i+j)) H
theorem Z4:aaW X .Add Br:=by
 rintro pins s σ H x y u v Q I rx ry ⟨i,j,rfl,rfl,q⟩
 obtain⟨t,rfl⟩:=(show ∃t,u=Value.int i t from rx)
 obtain⟨t',rfl⟩:=(show ∃t',v=Value.int j t' from ry)
 exact PyProof.Rows.iadd_int ⟨.int (i+j),H,I.tok _,⟨_,rfl⟩,q⟩
end
end L2
namespace L2
open PySem PySem.Spec PyProof.Rows
structure cO(k:Nat)(A:Around):Prop where
 hd:A.handled=none
 dp:A.depth+3*k+5<recursionLimit
 un:A.units+16*k+200<cLine
theorem cO.mono{j k:Nat}{A:Around}(r:cO k A)(h:j≤k):cO j A:=⟨r.hd,by have:=r.dp;omega,by have:=r.un;omega⟩
theorem cO.deeper{k:Nat}{A:Around}(r:cO (k+1) A)(env:Env):cO k (A.deeper env):=
 ⟨r.hd,by have:=r.dp;show A.depth+1+3*k+5<_;omega,by have:=r.un;show A.units+3+16*k+200<_;omega⟩
theorem ae_{A:Around}{C:Addr}{us:List Value}{kw:List (Str×Value)}:(A.under (.builtin "type.__call__" ⟨.ref C::us,kw⟩)).depth=A.depth+1:=by
 first|rfl|simp[Around.under,Code.weight,Code.isCreation,Code.isGuard,Code.isCaller,Code.frames,Code.isFrame,guardIds]
theorem afa{A:Around}{C:Addr}{us:List Value}{kw:List (Str×Value)}:(A.under (.builtin "type.__call__" ⟨.ref C::us,kw⟩)).units=A.units+1:=by
 first|rfl|simp[Around.under,Code.cUnits,Code.frames,Code.isFrame]
theorem cO.make{k:Nat}{A:Around}(r:cO (k+1) A)(C:Addr)(us:List Value)(kw:List (Str×Value)):cO k (A.under (.builtin "type.__call__" ⟨.ref C::us,kw⟩)):=
 ⟨r.hd,by have:=r.dp;rw[ae_];omega,by have:=r.un;rw[afa];omega⟩
theorem cO.depth{k:Nat}{A:Around}(r:cO k A):A.depth<recursionLimit:=by have:=r.dp;omega
theorem cO.units{k:Nat}{A:Around}(r:cO k A):A.units+64<cLine:=by have:=r.un;omega
def aq:TA:=fun _ H Q=>Q [] H
def ak(ta:TE)(tr:TA):TA:=fun σ H Q=>ta σ H fun x H1=>tr σ H1 fun xs H2=>Q (x::xs) H2
section
variable{X:Cx}{e:Expr}{es:List Expr}{te:TE}{t:TA}{pos:Pos}
theorem aA:PA X [] aq:=fun _ _ _ _ H Q I h=>Calls.spliced_nil ⟨[],H,I,.nil,h⟩
theorem ao(ha:PE X e te)(hr:PA X es t)(hs:starEach (e::es) X.env=(false,eval e X.env)::starEach es X.env:=by rfl):PA X (e::es) (ak te t):=by
 intro pos pins s σ H Q I h
 rw[hs]
 show wpAny _ _ (spliced ((false,eval e X.env)::backTo pos (starEach es X.env))) _ _ s
 refine Calls.spliced_cons (aN (ha pins s σ H _ I h) fun u s1 ⟨x,H1,I1,r1,q1⟩=>?_)
 exact aN (hr pos pins s1 σ H1 _ I1 q1) fun us s2 ⟨xs,H2,I2,r2,q2⟩=>⟨x::xs,H2,I2,.cons r1 r2,q2⟩
def Bs(t:TA):TE:=fun σ H Q=>t σ H fun xs H1=>xs.length≤sizeLine∧∀p,H1 p=none→Q (.ref p) (upd H1 p (.tup xs))
def bQ(t:TA):TE:=fun σ H Q=>t σ H fun xs H1=>xs.length≤sizeLine∧∀p,H1 p=none→Q (.ref p) (upd H1 p (.lst xs))
theorem Z5{x1}(h:PA X es t):PE X (.Tuple es x1 pos) (Bs t):=by
 intro pins s σ H Q I hq
 refine wpAny_Tuple_spliced (aN (h pos pins s σ H _ I hq) fun us s1 ⟨xs,H1,I1,r,z,q⟩=>⟨by rw[←r.length];exact z,?_⟩)
 have hf:H1 s1.heap.objs.size=none:=I1.hok.fresh (Nat.le_refl _)
 refine⟨.ref s1.heap.objs.size,upd H1 s1.heap.objs.size (.tup xs),I1.laid (t':=s1.toks) (fun b u e=>Heap.get?_push_of_some _ e) (Nat.le_refl _) ?_,rfl,q _ hf⟩
 exact⟨z,us,r,⟨_,Heap.get?_push_size _ rfl,rfl,_,rfl⟩⟩
theorem bR(h:PA X es t):PE X (.List es pos) (bQ t):=by
 intro pins s σ H Q I hq
 refine wpAny_List_spliced (aN (h pos pins s σ H _ I hq) fun us s1 ⟨xs,H1,I1,r,z,q⟩=>⟨by rw[←r.length];exact z,?_⟩)
 have hf:H1 s1.heap.objs.size=none:=I1.hok.fresh (Nat.le_refl _)
 refine⟨.ref s1.heap.objs.size,upd H1 s1.heap.objs.size (.lst xs),I1.laid (t':=s1.toks) (fun b u e=>Heap.get?_push_of_some _ e) (Nat.le_refl _) ?_,rfl,q _ hf⟩
 exact⟨z,us,0,r,Heap.get?_push_size _ rfl⟩
end
abbrev Sp:=List V→Hp→VK→XK→Prop
abbrev jC:=List Env→Hp→Shared→XK→Value→Shared→Prop
structure pJ(P:Program)(w:World)(K:PySem.W.Frag)(mg:Str→Option Value)(base:Heap)(A:Around)(outer:List Env)(s:Shared)(H:Hp):Prop where
 frames:A.frames=some outer
 mod:Mod K mg base
 bs:∀b o,base.get? b=some o→s.heap.get? b=some o∧H b=none
 mL:base.objs.size≤s.heap.objs.size
 ju:s.heap.FunFrames base outer
 pR:∀b∈frs outer,H b=none
 hok:cI P w H s.heap
 bare:AllBare s.gens
def CE(outer:List Env)(P:Program)(w:World)(H:Hp)(s:Shared)(Q:VK)(u:Value)(s':Shared):Prop:=
 ∃v H',s'.os=s.os∧AllBare s'.gens∧Un (frs outer) [] H H' s.heap s'.heap∧cI P w H' s'.heap∧RelV v u∧Q v H'
def CR(CX:jC)(outer:List Env)(P:Program)(w:World)(H:Hp)(s:Shared)(Q:VK)(E:XK)(r:Result)(s':Shared):Prop:=
 match r with
 | .ok (.ret u)=>CE outer P w H s Q u s'
 | .ok _=>False
 | .error e=>CX outer H s E e s'
structure iC(P:Program)(w:World)(K:PySem.W.Frag)(mg:Str→Option Value)(base:Heap)(CX:jC)(k:Nat)(f:Addr)(fd:FuncData)(ps:List Str)(sp:Sp):Prop where
 len:∀vs H Q E,sp vs H Q E→vs.length=ps.length
 run:∀(A:Around) (outer:List Env) (s:Shared) (H:Hp) (args:Args) (us:List Value) (vs:List V) (Q:VK) (E:XK),cO k A→pJ P w K mg base A outer s H→BindsTo s fd args (ps.zip us)→Vals vs us→sp vs H Q E→
  codeAny (model P w) A (.call (.ref f) args) (CR CX outer P w H s Q E) s
theorem pJ.make{P:Program}{w:World}{K:PySem.W.Frag}{mg:Str→Option Value}{base:Heap}{A:Around}{outer:List Env}{s:Shared}{H:Hp}(e:pJ P w K mg base A outer s H)(C:Addr)(us:List Value)(kw:List (Str×Value)):
 pJ P w K mg base (A.under (.builtin "type.__call__" ⟨.ref C::us,kw⟩)) outer s H:=⟨by first|exact e.frames|(simpa [Around.under,Code.envs,Code.isFrame,pushEnvs] using e.frames),e.mod,e.bs,e.mL,e.ju,e.pR,e.hok,e.bare⟩
section
variable{X:Cx}{pins:List (Addr×Obj)}{σ:St}{H:Hp}{s s':Shared}
theorem Inv.env0(I:Inv X pins σ H s):pJ X.prog X.w X.K X.mg X.base X.A X.stack s H:=
 ⟨I.ok.frames,I.ok.mod,I.bs,Nat.le_trans I.ok.mL I.sz,I.stack,I.Y5,I.hok,I.bare⟩
theorem Inv.after{Q:VK}{u:Value}(I:Inv X pins σ H s)(h:CE X.stack X.prog X.w H s Q u s'):EP X pins σ Q u s':=by
 obtain⟨v,H',os,bare,un,hok,r,q⟩:=h
 obtain⟨hh,g,d,t,os'⟩:=s'
 obtain rfl:os'=s.os:=os
 exact⟨v,H',I.call (h':=hh) (g':=g) (d':=d) (t':=t) (ch:=[]) un hok bare (fun b z=>absurd z (by simp)),r,q⟩
end
def akv(sp:Sp)(gD:List V)(E:XK)(t:TA):TE:=fun σ H Q=>t σ H fun vs H1=>sp (vs++gD) H1 Q E
def Binds(K:PySem.W.Frag)(fd:FuncData)(ps:List Str)(ds:List Value):Prop:=
 ∀(s:Shared) (us:List Value),K.In s.heap→(us++ds).length=ps.length→BindsTo s fd ⟨us,[]⟩ (ps.zip (us++ds))
theorem Binds.all{K:PySem.W.Frag}{fd:FuncData}{ps:List Str}(h:∀us:List Value,us.length=ps.length→bindArgs fd ⟨us,[]⟩=pure (ps.zip us)):Binds K fd ps []:=fun s us _ hl=>by
 rw[List.append_nil] at hl⊢
 exact .of_eq (h us hl)
def Passes(CX:jC)(X:Cx)(E:XK):Prop:=∀(pins:List (Addr×Obj)) (σ:St) (H:Hp) (s:Shared) (e:Value) (s':Shared),Inv X pins σ H s→CX X.stack H s E e s'→X.xe e s'
section
variable{X:Cx}{CX:jC}{k:Nat}{f C:Addr}{fd:FuncData}{ps:List Str}{sp:Sp}{gD:List V}{ds:List Value}{E:XK}{x m:Str}{p pos apos:Pos}{e o:Expr}{es:List Expr}{ta:TE}{t:TA}
theorem Mr{pins:List (Addr×Obj)}{σ:St}{H:Hp}{s:Shared}{Q:VK}{us:List Value}{vs:List V}(F:iC X.prog X.w X.K X.mg X.base CX k f fd ps sp)(hr:cO k X.A)(hb:Binds X.K fd ps ds)(hd:Vals gD ds)(hx:Passes CX X E)
 (I:Inv X pins σ H s)(r:Vals vs us)(h:sp (vs++gD) H Q E):wpAny (model X.prog X.w) X.A (call (.ref f) us) (EP X pins σ Q) X.xe s:=by
 have r2:Vals (vs++gD) (us++ds):=r.append hd
 have hl:(us++ds).length=ps.length:=by rw[←r2.length];exact F.len _ _ _ _ h
 refine wpAny_call (codeAny_mono (F.run X.A X.stack s H ⟨us,[]⟩ (us++ds) (vs++gD) Q E hr I.env0 (hb s us I.gQ hl) r2 h) fun r s' hq=>?_)
 cases r with
 |error e=>exact hx pins σ H s e s' I hq
 |ok fl=>
  cases fl with
  |ret u=>exact I.after hq
  |next=>exact False.elim hq
  |brk=>exact False.elim hq
  |cont=>exact False.elim hq
theorem aip(F:iC X.prog X.w X.K X.mg X.base CX k f fd ps sp)(hr:cO k X.A)(hg:Gl X x)(hm:X.mg x=some (.ref f))(hk:PySem.W.keepIn X.K (.ref f)=true)(hb:Binds X.K fd ps ds)(hd:Vals gD ds)(hx:Passes CX X E)
 (ha:PA X (e::es) t)(hdb:(x==("__debug__":Str))=false:=by decide)(he:starEach (e::es) X.env=(false,eval e X.env)::starEach es X.env:=by rfl)(hpl:(backTo pos (starEach es X.env)).any (·.1)=false:=by rfl):
 PE X (.Call (.Name x p) (e::es) [] pos) (akv sp gD E t):=by
 intro pins s σ H Q I h
 refine wpAny_Call_Name_kw (zM I hg hm ?_ hdb)
 refine PySem.W.callWith_K (h₀:=X.base) I.ok.mod.vq hk (aN (ha pos pins s σ H _ I h) fun us s1 ⟨vs,H1,I1,r,q⟩=>⟨I1.gQ,?_⟩) he hpl
 exact Mr F hr hb hd hx I1 r q
structure Mk(K:PySem.W.Frag)(C f:Addr):Prop where
 makes:PySem.W.makesIn K C=true
 init:PySem.W.findIn K (.ref C) "__init__"=some (some (.ref f))
 fn:PySem.W.isFn K (.ref f)=true
 kp:PySem.W.keepIn K (.ref C)=true
theorem X3{pins:List (Addr×Obj)}{σ:St}{H:Hp}{s:Shared}{Q:VK}{us:List Value}{vs:List V}(M:Mk X.K C f)(F:iC X.prog X.w X.K X.mg X.base CX k f fd ps sp)(hr:cO (k+1) X.A)(hb:Binds X.K fd ps ds)(hd:Vals gD ds)
 (hx:Passes CX X E)(I:Inv X pins σ H s)(r:Vals vs us)
 (h:∀x dx,H x=none→H dx=none→dx≠x→sp (.ref x::(vs++gD)) (upd (upd H dx (.own x)) x (.ins C dx [])) (fun v H2=>v= .non∧Q (.ref x) H2) E):
 wpAny (model X.prog X.w) X.A (call (.ref C) us) (EP X pins σ Q) X.xe s:=by
 have hq:=h (s.heap.objs.size+1) s.heap.objs.size (I.hok.fresh (Nat.le_succ _)) (I.hok.fresh (Nat.le_refl _)) (Nat.ne_of_lt (Nat.lt_succ_self _))
 have I2:=Inv.made (C:=C) I
 have r2:Vals (V.ref (s.heap.objs.size+1)::(vs++gD)) (Value.ref (s.heap.objs.size+1)::(us++ds)):=.cons rfl (r.append hd)
 have hl:(Value.ref (s.heap.objs.size+1)::us++ds).length=ps.length:=by
  have e:=r2.length
  rw[F.len _ _ _ _ hq] at e
  exact e.symm
 refine wpAny_call (ahh (f:=f) I.gQ M.makes M.init (beq_iff_eq.mp M.fn) (codeAny_mono (F.run _ X.stack _ _ ⟨Value.ref (s.heap.objs.size+1)::us,[]⟩ (Value.ref (s.heap.objs.size+1)::(us++ds)) _ _ E (hr.make C us [])
  (I2.env0.make C us []) (hb _ (Value.ref (s.heap.objs.size+1)::us) I2.gQ hl) r2 hq) fun r s' hq'=>?_))
 cases r with
 |error e=>exact hx pins σ _ _ e s' I2 hq'
 |ok fl=>
  cases fl with
  |ret u=>
   obtain⟨v,H',I3,rv,ev,q3⟩:=I2.after hq'
   subst ev
   exact⟨rv,⟨V.ref (s.heap.objs.size+1),H',I3,rfl,q3⟩⟩
  |next=>exact False.elim hq'
  |brk=>exact False.elim hq'
  |cont=>exact False.elim hq'
end
def PK(X:Cx)(kws:List Keyword)(t:TA):Prop:=
 ∀(pos:Pos) (pins:List (Addr×Obj)) (s:Shared) (σ:St) (H:Hp) (Q:List V→Hp→Prop),Inv X pins σ H s→t σ H Q→wpAny (model X.prog X.w) X.A (evalAll ((backToKw pos (keywordEach kws X.env)).map (·.2))) (AP X pins σ Q) X.xe s
section
variable{X:Cx}{CX:jC}{k:Nat}{f C:Addr}{fd:FuncData}{ps ks:List Str}{sp:Sp}{E:XK}{x m:Str}{p pos apos kpos:Pos}{e o:Expr}{es:List Expr}{kws:List Keyword}{te ta:TE}{t tk:TA}{nm:Option Str}
theorem ajB:PK X [] aq:=fun _ _ _ _ H Q I h=>wpAny_evalAll_nil ⟨[],H,I,.nil,h⟩
theorem aiq(ha:PE X e te)(hr:PK X kws t):PK X (⟨nm,e,kpos⟩::kws) (ak te t):=by
 intro pos pins s σ H Q I h
 show wpAny _ _ (evalAll ((do let v←eval e X.env;standAt pos;pure v)::(backToKw pos (keywordEach kws X.env)).map (·.2))) _ _ s
 refine wpAny_evalAll_cons (wpAny_bind (aN (ha pins s σ H _ I h) fun u s1 ⟨x,H1,I1,r1,q1⟩=>wpAny_bind (wpAny_standAt (wpAny_pure ?_))))
 exact aN (hr pos pins s1 σ H1 _ I1 q1) fun us s2 ⟨xs,H2,I2,r2,q2⟩=>⟨x::xs,H2,I2,.cons r1 r2,q2⟩
variable{g:List Value→List Value→List Value}{gV:List V→List V→List V}
end
structure aW(N P:List Str)(sc:Scope):Prop where
 kind:sc.kind= .function
 co:sc.isCoroutine=false
 gen:sc.isGenerator=false
 nd:N.Nodup
 pre:N.take P.length=P
 par:∀x∈P,sc.names.lookup x=some .local∨sc.names.lookup x=some .cell
 ajC:∀y∈sc.names,y.2≠ .free
theorem Wx{kindOf:Str→Option NameKind}{x:Str}:∀{binds:List (Str×Value)} {m:Str→Option Value},(∀v,(x,v)∉binds)→bindL kindOf binds m x=m x
 | [],_,_=>rfl
 |(n,v)::r,m,h=>by
  unfold bindL
  rw[Wx fun w hw=>h w (List.mem_cons_of_mem _ hw)]
  split
  ·have:x≠n:=by rintro rfl;exact h v List.mem_cons_self
   simp[this]
  ·rfl
theorem Wy{kindOf:Str→Option NameKind}{x:Str}:∀{binds:List (Str×Value)} {m:Str→Option Value},(∀v,(x,v)∉binds)→bindC kindOf binds m x=m x
 | [],_,_=>rfl
 |(n,v)::r,m,h=>by
  unfold bindC
  rw[Wy fun w hw=>h w (List.mem_cons_of_mem _ hw)]
  split
  ·rfl
  ·have:x≠n:=by rintro rfl;exact h v List.mem_cons_self
   simp[this]
theorem Wz{kindOf:Str→Option NameKind}{x:Str}{v:Value}:∀{P:List Str} {vs:List Value} {i:Nat} {m:Str→Option Value},P.Nodup→P[i]? =some x→vs[i]? =some v→kindOf x=some .local→
 bindL kindOf (P.zip vs) m x=some v
 | [],_,_,_,_,h,_,_=>by simp at h
 |_::_,[],_,_,_,_,h,_=>by simp at h
 |p::P,w::vs,0,m,nd,h1,h2,hk=>by
  simp at h1 h2;subst h1;subst h2
  show bindL kindOf ((p,w)::P.zip vs) m p=_
  unfold bindL
  rw[Wx fun v hv=>(List.nodup_cons.mp nd).1 (List.of_mem_zip hv).1,if_pos hk]
  simp
 |p::P,w::vs,i+1,m,nd,h1,h2,hk=>by
  show bindL kindOf ((p,w)::P.zip vs) m x=_
  unfold bindL
  exact Wz (i:=i) (List.nodup_cons.mp nd).2 (by simpa using h1) (by simpa using h2) hk
theorem WD{kindOf:Str→Option NameKind}{x:Str}{v:Value}:∀{P:List Str} {vs:List Value} {i:Nat} {m:Str→Option Value},P.Nodup→P[i]? =some x→vs[i]? =some v→kindOf x≠some .local→
 bindC kindOf (P.zip vs) m x=some v
 | [],_,_,_,_,h,_,_=>by simp at h
 |_::_,[],_,_,_,_,h,_=>by simp at h
 |p::P,w::vs,0,m,nd,h1,h2,hk=>by
  simp at h1 h2;subst h1;subst h2
  show bindC kindOf ((p,w)::P.zip vs) m p=_
  unfold bindC
  rw[Wy fun v hv=>(List.nodup_cons.mp nd).1 (List.of_mem_zip hv).1,if_neg hk]
  simp
 |p::P,w::vs,i+1,m,nd,h1,h2,hk=>by
  show bindC kindOf ((p,w)::P.zip vs) m x=_
  unfold bindC
  exact WD (i:=i) (List.nodup_cons.mp nd).2 (by simpa using h1) (by simpa using h2) hk
def start(N:List Str)(vs:List V):St:=vs.map some++List.replicate (N.length - vs.length) none
def mG(CX:jC)(P:Program)(w:World)(K:PySem.W.Frag)(mg:Str→Option Value)(base:Heap)(N:List Str)(qual:Str)(scope:Scope)(f:Addr)(cd:Value)(A:Around)(outer:List Env)(s:Shared)(H:Hp)(E:XK):Cx where
 prog:=P
 w:=w
 K:=K
 mg:=mg
 base:=base
 A:=A.deeper (envOfC qual scope s.heap.objs.size f cd)
 N:=N
 s_0:=s
 vA:=H
 env:=envOfC qual scope s.heap.objs.size f cd
 outer:=outer
 stack:=envOfC qual scope s.heap.objs.size f cd::outer
 ex:=[]
 calm:=true
 fn:=fun _=>true
 pn:=[]
 xe:=fun e s'=>wpAny (model P w) (A.deeper (envOfC qual scope s.heap.objs.size f cd)) (leaving (envOfC qual scope s.heap.objs.size f cd) e) (fun _ s''=>CX outer H s E e s'') (fun e' s''=>CX outer H s E e' s'') s'
theorem X4{sc:Scope}{n:Nat}{x:Str}(h:sc.names.lookup x=some .cell):∃c,(cellsFrom n sc.names []).lookup x=some c:=by
 have q:=PySem.W.cellsFrom_some sc.names n [] (.inl h)
 exact Option.isSome_iff_exists.mp q
theorem agj{CX:jC}{P:Program}{w:World}{K:PySem.W.Frag}{mg:Str→Option Value}{base:Heap}{N ps:List Str}{qual:Str}{scope:Scope}{f:Addr}{cd:Value}{A:Around}{outer:List Env}{s s1:Shared}{H:Hp}{E:XK}{us:List Value}{vs:List V}
 (S:aW N ps scope)(hd:A.handled=none)(e0:pJ P w K mg base A outer s H)(hl:vs.length=ps.length)(r:Vals vs us)
 (x:InCallC s s.heap.objs.size (bindL (envOfC qual scope s.heap.objs.size f cd).kindOf (ps.zip us) fun _=>none) (cellsFrom (s.heap.objs.size+1) scope.names []) (bindC (envOfC qual scope s.heap.objs.size f cd).kindOf (ps.zip us) fun _=>none) s1):
 Inv (mG CX P w K mg base N qual scope f cd A outer s H E) [] (start N vs) H s1:=by
 have hpl:ps.length≤N.length:=by have:=congrArg List.length S.pre;rw[List.length_take] at this;omega
 obtain⟨h1,tk,rfl,hk⟩:=x.done
 have sS:∀b:Addr,b∉(mG CX P w K mg base N qual scope f cd A outer s H E).ex:=fun b z=>absurd (show b∈([]:List Addr) from z) (by simp)
 refine⟨⟨e0.mod,S.kind,rfl,rfl,Nat.le_refl _,fun y z c h1 h2=>?_,fun y hy=>?_,fun y c _ h=>?_,fun _=>hd,Around.frames_deeper e0.frames,.inr ⟨rfl,rfl⟩,fun b z=>absurd z (sS b),e0.bs,e0.mL,fun b _ _=>sS b,fun b z=>absurd z (sS b),e0.ju,e0.pR⟩,
  rfl,e0.bare,Un.kept hk,⟨_,x.toInCall.ns,fun i y v h1 h2 h3=>?_⟩,fun y c h=>⟨_,x.cell y c h⟩,e0.hok.fresh (Nat.le_refl _),fun y c h=>?_,fun p hp=>absurd (show p∈([]:List (Addr×Obj)) from hp) (by simp),e0.hok.kept hk,?_⟩
 ·exact name_of_addr x.apart (PySem.mem_of_lookup h1) (PySem.mem_of_lookup h2)
 ·have hy:scope.names.lookup y=some .cell∨scope.names.lookup y=some .free:=hy
  rcases hy with hy|hy
  ·exact X4 hy
  ·exact absurd rfl (S.ajC _ (PySem.mem_of_lookup hy))
 ·exact Nat.le_of_lt (x.above y c (PySem.mem_of_lookup h))
 ·have hi:i<vs.length:=by
   unfold start at h2
   by_cases hi:i<vs.length
   ·exact hi
   ·rw[List.getElem?_append_right (by simpa using hi)] at h2
    rw[List.getElem?_replicate] at h2
    split at h2<;>cases h2
  have ha:vs[i]? =some v:=by
   unfold start at h2
   rw[List.getElem?_append_left (by simpa using hi),List.getElem?_map] at h2
   cases e:vs[i]? with
   |none=>rw[e] at h2;cases h2
   |some a=>rw[e] at h2;cases h2;rfl
  obtain⟨u,hu,rv⟩:=r.get ha
  have hp:ps[i]? =some y:=by
   rw[←S.pre,List.getElem?_take_of_lt (by omega)];exact h1
  have ndP:ps.Nodup:=by rw[←S.pre];exact S.nd.sublist (List.take_sublist _ _)
  refine⟨u,rv,?_⟩
  rcases S.par y (List.mem_of_getElem? hp) with k|k
  ·exact .inl ⟨k,Wz ndP hp hu k⟩
  ·obtain⟨c,e⟩:=X4 (n:=s.heap.objs.size+1) k
   refine .inr ⟨.inl k,c,e,?_⟩
   have q:=x.cell y c e
   rw[WD ndP hp hu (by show scope.names.lookup y≠_;rw[k];decide)] at q
   exact q
 ·exact e0.hok.fresh (Nat.le_of_lt (x.above y c (PySem.mem_of_lookup h)))
 ·unfold start
  show _=N.length
  rw[List.length_append,List.length_map,List.length_replicate]
  omega
theorem akx{CX:jC}{P:Program}{w:World}{K:PySem.W.Frag}{mg:Str→Option Value}{base:Heap}{k:Nat}{f:Addr}{name qual:Str}{params:Arguments}{body:List Stmt}{scope:Scope}{dV kV doc pm cdv ct oc:Value}{an od:Option Addr}
 {osl:Array (Option Value)}{N ps:List Str}{sp:Sp}(lk:K.lookup f=some ⟨oc,od,.func (PySem.W.fnOf name qual params body scope dV kV doc pm an cdv ct),osl⟩)(hcd:PySem.W.codeIn K cdv qual=true)(S:aW N ps scope)
 (len:∀vs H Q E,sp vs H Q E→vs.length=ps.length)
 (hbody:∀(A:Around) (outer:List Env) (s:Shared) (H:Hp) (vs:List V) (Q:VK) (E:XK),cO k (A.deeper (envOfC qual scope s.heap.objs.size f cdv))→sp vs H Q E→
   ∃t,gC (mG CX P w K mg base N qual scope f cdv A outer s H E) body t∧t {nx:=fun _ H'=>Q .non H',rt:=Q} (start N vs) H):
 iC P w K mg base CX (k+1) f (PySem.W.fnOf name qual params body scope dV kV doc pm an cdv ct) ps sp:=by
 refine⟨len,fun A outer s H args us vs Q E hr e0 hb r hsp=>?_⟩
 have hl:=len _ _ _ _ hsp
 have KX:K.In s.heap:=e0.mod.vq.keeps fun b o e=>(e0.bs b o e).1
 have lim:s.heap.NoLimit:=e0.mod.nolimit.keeps fun b o e=>(e0.bs b o e).1
 have hkind:∀y∈ps.zip us,scope.names.lookup y.1=some .local∨(scope.names.lookup y.1=some .cell∧((cellsFrom (s.heap.objs.size+1) scope.names []).lookup y.1).isSome=true):=fun⟨n,v⟩ hy=>by
  rcases S.par n (List.of_mem_zip hy).1 with q|q
  ·exact .inl q
  ·exact .inr ⟨q,PySem.W.cellsFrom_some _ _ _ (.inl q)⟩
 refine codeAny_call_function hr.depth (KX _ _ lk) rfl S.co S.gen rfl (PySem.W.codeRec_of KX hcd) (hb _ _ _ _ ?_)
 refine wpAny_newFunctionEnv_cells S.kind hkind fun env he s1 x=>?_
 subst he
 refine⟨lim.keeps x.toInCall.keep,codeAny_func ?_⟩
 obtain⟨t,ht,hq⟩:=hbody A outer s H vs Q E (hr.deeper _) hsp
 have I:Inv (mG CX P w K mg base N qual scope f cdv A outer s H E) [] (start N vs) H s1:=agj S hr.hd e0 hl r x
 refine wpAny_mono (ht [] s1 (start N vs) H _ I hq) (fun fl s' hs=>?_) fun e s' hs=>hs
 have fin:∀{σ':St} {H':Hp} {v:V} {u:Value},Inv (mG CX P w K mg base N qual scope f cdv A outer s H E) [] σ' H' s'→RelV v u→Q v H'→CE outer P w H s Q u s':=
  fun {σ' H' v u} J rv q=>⟨v,H',J.os,J.bare,J.base,J.hok,rv,q⟩
 cases fl with
 |ret u=>
  obtain⟨v,σ',H',J,rv,q⟩:=hs
  exact fin J rv q
 |next=>
  obtain⟨σ',H',J,q⟩:=hs
  exact fin (v:=V.non) (u:=Value.none) J rfl q
 |brk=>
  obtain⟨_,_,_,q⟩:=hs
  exact False.elim q
 |cont=>
  obtain⟨_,_,_,q⟩:=hs
  exact False.elim q
end L2
namespace L2
open PySem PySem.Spec PyProof.Rows
section
variable{X:Cx}{x:Str}{p pos:Pos}{e:Expr}{es:List Expr}{t:TA}{id T:String}{r:List V→Hp→VK→Prop}
def bU(r:List V→Hp→VK→Prop)(t:TA):TE:=fun σ H Q=>t σ H fun vs H1=>r vs H1 Q
theorem bZ(hc:kO X (.builtin id) r)(hg:Gl X x)(hm:X.mg x=none)(hv:bootBuiltins x=some (.builtin id))(ha:PA X (e::es) t)(hn:x≠"__name__":=by decide)(hdb:(x==("__debug__":Str))=false:=by decide)
 (he:starEach (e::es) X.env=(false,eval e X.env)::starEach es X.env:=by rfl)(hpl:(backTo pos (starEach es X.env)).any (·.1)=false:=by rfl):PE X (.Call (.Name x p) (e::es) [] pos) (bU r t):=by
 intro pins s σ H Q I h
 refine wpAny_Call_Name_kw (lW I hg hm hv ?_ hn hdb)
 exact PyProof.Rows.callWith_builtin1 (aN (ha pos pins s σ H _ I h) fun us s1 ⟨vs,H1,I1,r1,q1⟩=>hc pins s1 σ H1 vs us Q I1 r1 q1) he hpl
theorem uc(hc:kO X (.type T) r)(hg:Gl X x)(hm:X.mg x=none)(hv:bootBuiltins x=some (.type T))(ha:PA X (e::es) t)(hn:x≠"__name__":=by decide)(hdb:(x==("__debug__":Str))=false:=by decide)
 (he:starEach (e::es) X.env=(false,eval e X.env)::starEach es X.env:=by rfl)(hpl:(backTo pos (starEach es X.env)).any (·.1)=false:=by rfl):PE X (.Call (.Name x p) (e::es) [] pos) (bU r t):=by
 intro pins s σ H Q I h
 refine wpAny_Call_Name_kw (lW I hg hm hv ?_ hn hdb)
 exact PyProof.Rows.callWith_type1 (aN (ha pos pins s σ H _ I h) fun us s1 ⟨vs,H1,I1,r1,q1⟩=>hc pins s1 σ H1 vs us Q I1 r1 q1) he hpl
end
end L2
namespace HT
open PySem PyProof.Rows
section
open PySem.SeqAt
open PySem.AutoSeq1 (wpAny_loadPart')
open PySem.MeetsSeq PySem.MeetsSeq2 PySem.MeetsSeq3
end
section
variable{prog:Program}{w:World}{A:Around}{E:Value→Shared→Prop}{s:Shared}
def fQ(n d:Nat):Option Int→Nat
 |none=>d
 |some v=>if v<0 then(v+(n:Int)).toNat else min v.toNat n
theorem Km(n d:Nat):fQ n d none=d:=rfl
theorem zO(n d k:Nat):fQ n d (some (k:Int))=min k n:=by
 show(if(k:Int)<0 then((k:Int)+(n:Int)).toNat else min (k:Int).toNat n)=min k n
 rw[if_neg (by omega),Int.toNat_natCast]
end
end HT
namespace L2
open PySem PySem.Spec PyProof.Rows
abbrev TO:=St→Hp→(Option Int→Hp→Prop)→Prop
def PO(X:Cx)(e:Option Expr)(t:TO):Prop:=
 ∀(pins:List (Addr×Obj)) (s:Shared) (σ:St) (H:Hp) (Q:Option Int→Hp→Prop),Inv X pins σ H s→t σ H Q→
  wpAny (model X.prog X.w) X.A (evalPart e X.env) (fun u s'=>∃o H',Inv X pins σ H' s'∧IsPart u o∧Q o H') X.xe s
def j8:TO:=fun _ H Q=>Q none H
def iU(t:TE):TO:=fun σ H Q=>t σ H fun x H1=>∃i,x= .int i∧Q (some i) H1
section
variable{X:Cx}{e:Expr}{te:TE}{lo hi:Option Expr}{tl th:TO}{pos p2:Pos}
theorem nH:PO X none j8:=by
 intro pins s σ H Q I h
 rw[evalPart_none]
 exact wpAny_pure ⟨none,H,I,.none,h⟩
theorem jL(h:PE X e te):PO X (some e) (iU te):=by
 intro pins s σ H Q I hw
 rw[evalPart_some]
 refine aN (h pins s σ H _ I hw) fun u s1 ⟨x,H1,I1,r1,q1⟩=>?_
 obtain⟨i,rfl,q⟩:=q1
 obtain⟨t,rfl⟩:=r1
 exact⟨some i,H1,I1,.int i t,q⟩
def SlR(X:Cx)(r:V→Option Int→Option Int→Hp→VK→Prop):Prop:=
 ∀(pins:List (Addr×Obj)) (s:Shared) (σ:St) (H:Hp) (x:V) (v vl vu:Value) (lo hi:Option Int) (sl:Addr) (Q:VK),Inv X pins σ H s→RelV x v→s.heap.IsSliceOf sl vl vu .none→IsPart vl lo→IsPart vu hi→r x lo hi H Q→
  ∃T id,typeLookup (.type T) "__getitem__"=pure (some (.builtin id))∧s.TypeIs v T∧wpAny (model X.prog X.w) X.A (getItem v (.ref sl)) (EP X pins σ Q) X.xe s
def mQ(r:V→Option Int→Option Int→Hp→VK→Prop)(te:TE)(tl th:TO):TE:=fun σ H Q=>te σ H fun x H1=>tl σ H1 fun l H2=>th σ H2 fun u H3=>r x l u H3 Q
theorem oX{r:V→Option Int→Option Int→Hp→VK→Prop}(hr:SlR X r)(he:PE X e te)(hl:PO X lo tl)(hu:PO X hi th):PE X (.Subscript e (.Slice lo hi none p2) pos) (mQ r te tl th):=by
 intro pins s σ H Q I h
 refine Subscript_ (aN (he pins s σ H _ I h) fun v s1 ⟨x,H1,I1,r1,q1⟩=>?_)
 refine wpAny_Slice (aN (hl pins s1 σ H1 _ I1 q1) fun vl s2 ⟨l,H2,I2,pl,q2⟩=>aN (hu pins s2 σ H2 _ I2 q2) fun vu s3 ⟨u,H3,I3,pu,q3⟩=>?_)
 rw[evalPart_none]
 refine wpAny_pure ?_
 have I4:Inv X pins σ H3 {s3 with heap:=s3.heap.push {cls:=.type "slice",data:=.fields #[vl,vu,.none]}}:=I3.kept (t':=s3.toks) fun b ob q=>Heap.get?_push_of_some _ q
 obtain⟨T,id,hT,ht,hg⟩:=hr pins {s3 with heap:=s3.heap.push {cls:=.type "slice",data:=.fields #[vl,vu,.none]}} σ H3 x v vl vu l u s3.heap.objs.size Q I4 r1 (Heap.IsSliceOf.new ..) pl pu q3
 show wpAny (model X.prog X.w) X.A (subscriptTail e (.Slice lo hi none p2) v (.ref s3.heap.objs.size)) (EP X pins σ Q) X.xe {s3 with heap:=s3.heap.push {cls:=.type "slice",data:=.fields #[vl,vu,.none]}}
 exact tail_any (ops:=[.ref s3.heap.objs.size,v]) ht hT hg (by with_unfolding_all rfl)
def iD(xs:List V)(lo hi:Option Int):List V:=(xs.drop (HT.fQ xs.length 0 lo)).take (HT.fQ xs.length xs.length hi - HT.fQ xs.length 0 lo)
theorem aeo(xs:List V)(lo hi:Option Int):(iD xs lo hi).length≤xs.length:=by
 unfold iD
 rw[List.length_take,List.length_drop]
 omega
end
end L2
namespace L2
open PySem PySem.Spec PyProof.Rows
def jU(n:Nat)(i:Int):Option Nat:=if 0≤i then(if i<n then some i.toNat else none) else if -(n:Int)≤i then some (i+n).toNat else none
def gW{α:Type}(xs:List α)(i:Int):Option α:=(jU xs.length i).bind fun j=>xs[j]?
theorem Zb{n:Nat}{i:Int}{j:Nat}(h:jU n i=some j):seqIndex? i n=some j∧j<n∧ -(n:Int)≤i∧i<n:=by
 unfold jU at h
 by_cases h0:0≤i
 ·rw[if_pos h0] at h
  by_cases h1:i<n
  ·rw[if_pos h1] at h
   have e:i.toNat=j:=Option.some.inj h
   exact⟨by rw[seqIndex_of h0 h1,e],by omega,by omega,h1⟩
  ·rw[if_neg h1] at h;cases h
 ·rw[if_neg h0] at h
  by_cases h1: -(n:Int)≤i
  ·rw[if_pos h1] at h
   have e:(i+n).toNat=j:=Option.some.inj h
   exact⟨by rw[seqIndex_neg (by omega) h1,e],by omega,h1,by omega⟩
  ·rw[if_neg h1] at h;cases h
theorem zP{α:Type}{xs:List α}{i:Int}{v:α}(h:gW xs i=some v):∃j,seqIndex? i xs.length=some j∧xs[j]? =some v∧j<xs.length∧ -(xs.length:Int)≤i∧i<xs.length:=by
 unfold gW at h
 cases e:jU xs.length i with
 |none=>rw[e] at h;cases h
 |some j=>
  rw[e] at h
  obtain⟨h1,h2,h3,h4⟩:=Zb e
  exact⟨j,h1,h,h2,h3,h4⟩
theorem j9{α:Type}{xs:List α}{j:Nat}{v:α}(h:xs[j]? =some v):gW xs (j:Int)=some v:=by
 have hj:j<xs.length:=(List.getElem?_eq_some_iff.mp h).1
 have e:jU xs.length (j:Int)=some j:=by
  unfold jU
  rw[if_pos (by omega),if_pos (by omega)];simp
 unfold gW;rw[e];exact h
theorem zx{α:Type}(xs:List α)(v:α):gW (xs++[v]) (-1)=some v:=by
 have hl:(xs++[v]).length=xs.length+1:=by simp
 have e:jU (xs++[v]).length (-1)=some xs.length:=by
  unfold jU
  rw[hl,if_neg (by decide),if_pos (by omega)]
  congr 1
  omega
 unfold gW
 rw[e]
 show(xs++[v])[xs.length]? =some v
 simp
def air(b:Expr):Prop:=∀o i,subscripted b false o i=operate [o,i] (getItem o i)
def Cp(X:Cx)(r:R2):Prop:=
 ∀(value slice:Expr) (pins:List (Addr×Obj)) (s:Shared) (σ:St) (H:Hp) (x y:V) (v u:Value) (Q:VK),Inv X pins σ H s→RelV x v→RelV y u→r x y H Q→
  subscripted slice false v u=operate [v,u] (getItem v u)→wpAny (model X.prog X.w) X.A (subscriptTail value slice v u) (EP X pins σ Q) X.xe s
def mR(X:Cx)(id:String)(r:V→List V→Hp→VK→Prop):Prop:=
 ∀(pins:List (Addr×Obj)) (s:Shared) (σ:St) (H:Hp) (x:V) (xs:List V) (v:Value) (us:List Value) (Q:VK),Inv X pins σ H s→RelV x v→Vals xs us→r x xs H Q→
  wpAny (model X.prog X.w) X.A (call (.builtin id) (v::us)) (EP X pins σ Q) X.xe s
section
variable{X:Cx}{a b:Expr}{ta tb:TE}{pos:Pos}
theorem cA{r:R2}(hr:Cp X r)(ha:PE X a ta)(hb:PE X b tb)(hs:air b):PE X (.Subscript a b pos) (aG r ta tb):=by
 intro pins s σ H Q I h
 exact Subscript_ (NP ha hb I h fun v u s2 x y H2 I2 rx ry q=>hr a b pins s2 σ H2 x y v u Q I2 rx ry q (hs _ _))
def cB(K:PySem.W.Frag):R2:=fun x y H Q=>∃p xs i v,x= .ref p∧y= .int i∧au K H p xs∧gW xs i=some v∧Q v H
def NQ(K:PySem.W.Frag):R2:=fun x y H Q=>∃p xs i v,x= .ref p∧y= .int i∧bK K H p xs∧gW xs i=some v∧Q v H
def sE:R2:=fun x y H Q=>∃z i c,x= .str z∧y= .int i∧z.length≤sizeLine∧gW z.cps.toList i=some c∧Q (.str ⟨#[c]⟩) H
theorem cG:Cp X (cB X.K):=by
 intro value slice pins s σ H x y v u Q I rx ry h hs
 obtain⟨p,xs,i,z,rfl,rfl,hq,he,q⟩:=h
 cases rx
 obtain⟨t,rfl⟩:=ry
 obtain⟨its,r,pl,hz⟩:=I.list hq
 obtain⟨j,h1,h2,h3,h4,h5⟩:=zP he
 obtain⟨w,ew,jV⟩:=r.get h2
 have hl:=r.length
 have hn:=pB
 have fin:EP X pins σ Q w s:=⟨z,H,I,jV,q⟩
 by_cases h0:0≤i
 ·have hj:i.toNat=j:=by
   rw[seqIndex_of h0 h5] at h1
   exact Option.some.inj h1
  exact item_listR pl.isList h0 (by omega) (by rw[hj];simpa using ew) fin hs
 ·have hj:(i+(its.toArray.size:Int)).toNat=j:=by
   rw[seqIndex_neg (by omega) h4] at h1
   rw[List.size_toArray,←hl]
   exact Option.some.inj h1
  exact subscriptTail_builtinR (x:=w) pl.isList.typeIs slot_list_getitem.lookup
   (wpAny_getItem_list_neg (Q:=fun r s'=>r=w∧EP X pins σ Q r s') pl.isList (by omega) (by rw[List.size_toArray]<;>omega) (by omega) (by rw[hj];simpa using ew) ⟨rfl,fin⟩) hs
theorem ajD:Cp X (NQ X.K):=by
 intro value slice pins s σ H x y v u Q I rx ry h hs
 obtain⟨p,xs,i,z,rfl,rfl,hq,he,q⟩:=h
 cases rx
 obtain⟨t,rfl⟩:=ry
 obtain⟨its,r,pl,hz⟩:=I.tuple hq
 obtain⟨j,h1,h2,h3,h4,h5⟩:=zP he
 obtain⟨w,ew,jV⟩:=r.get h2
 have hl:=r.length
 have hn:=pB
 have fin:EP X pins σ Q w s:=⟨z,H,I,jV,q⟩
 exact subscriptTail_builtinR (x:=w) pl.typeIs slot_tuple_getitem.lookup
  (getItem_tuple (j:=j) (Q:=fun r s'=>r=w∧EP X pins σ Q r s') pl (by omega) (by omega) (by rw[List.size_toArray,←hl];exact h1) (by simpa using ew) ⟨rfl,fin⟩) hs
theorem Ag:Cp X sE:=by
 intro value slice pins s σ H x y v u Q I rx ry h hs
 obtain⟨z,i,c,rfl,rfl,hz,he,q⟩:=h
 obtain⟨t,rfl⟩:=rx
 obtain⟨t',rfl⟩:=ry
 obtain⟨j,h1,h2,h3,h4,h5⟩:=zP he
 have hl:z.cps.toList.length=z.length:=by simp[Str.length]
 rw[hl] at h1 h4 h5
 have hn:=pB
 exact tail_any (typeIs_str s z t) slot_str_getitem.lookup (getItem_str (c:=c) (by
  have e1:decide (i< -(2^63:Int))=false:=decide_eq_false (by omega)
  have e2:decide (i≥2^63)=false:=decide_eq_false (by omega)
  rw[e1,e2,Bool.or_false]) (by rw[h1];simpa using h2) ⟨.str ⟨#[c]⟩,H,I.tok _,⟨_,rfl⟩,q⟩) hs
theorem afb(its:List Value)(n j:Nat)(u:Value):Obj.mapSeq (·.setIfInBounds j u) {cls:=.type "list",data:=.seq its.toArray n}= {cls:=.type "list",data:=.seq (its.set j u).toArray n}:=by
 simp[Obj.mapSeq]
theorem Inv.lst{pins:List (Addr×Obj)}{σ:St}{H:Hp}{s:Shared}{p:Addr}{xs:List V}(I:Inv X pins σ H s)(h:H p=some (.lst xs)):
 ∃(its:List Value) (n:Nat),Vals xs its∧s.heap.get? p=some {cls:=.type "list",data:=.seq its.toArray n}∧xs.length≤sizeLine:=by
 obtain⟨z,its,n,r,e⟩:=I.hok p _ h
 exact⟨its,n,r,e,z⟩
theorem Inv.ajE{pins:List (Addr×Obj)}{σ:St}{H:Hp}{s:Shared}{p:Addr}{xs ys:List V}{its its':List Value}{n n':Nat}{f:Obj→Obj}(I:Inv X pins σ H s)(h:H p=some (.lst xs))
 (ho:s.heap.get? p=some {cls:=.type "list",data:=.seq its.toArray n})(hf:f {cls:=.type "list",data:=.seq its.toArray n}= {cls:=.type "list",data:=.seq its'.toArray n'})(r:Vals ys its')(hz:ys.length≤sizeLine)(t:Nat):
 Inv X pins σ (upd H p (.lst ys)) {s with heap:=s.heap.update p f,toks:=t}:=by
 have e:(s.heap.update p f).get? p=some {cls:=.type "list",data:=.seq its'.toArray n'}:=by
  rw[Heap.get?_update_self f ho (by rw[hf]<;>rfl),hf]
 refine I.write (x:=p) (e:=p) (by rw[h];trivial) (.inl rfl) (fun b u hb q=>(Heap.get?_update_other _ _ (Ne.symm hb)).trans q) ⟨_,e⟩ ?_
 exact⟨hz,its',n',r,e⟩
def Nm:V→V→V→Hp→(Hp→Prop)→Prop:=fun o i v H Q=>∃p xs k j,o= .ref p∧i= .int k∧H p=some (.lst xs)∧jU xs.length k=some j∧Q (upd H p (.lst (xs.set j v)))
theorem set_list:aaU X Nm:=by
 intro pins s σ H o i v ov iv u Q I ro ri rv h
 obtain⟨p,xs,k,j,rfl,rfl,hp,hj,q⟩:=h
 cases ro
 obtain⟨t,rfl⟩:=ri
 obtain⟨its,n,r,ho,hz⟩:=I.lst hp
 obtain⟨h1,h2,h3,h4⟩:=Zb hj
 have hl:=r.length
 have hn:=pB
 have I':Inv X pins σ (upd H p (.lst (xs.set j v))) {s with heap:=s.heap.update p (Obj.mapSeq (·.setIfInBounds j u))}:=
  I.ajE hp ho (afb its n j u) (r.set rv j) (by rw[List.length_set];exact hz) s.toks
 by_cases h0:0≤k
 ·have hk:k.toNat=j:=by
   rw[seqIndex_of h0 h4] at h1
   exact Option.some.inj h1
  exact PySem.W.ki_setAt ho h0 (by omega) (by rw[List.size_toArray,←hl];exact h4) (by rw[hk];exact⟨_,I',q⟩)
 ·have hk:(k+(its.toArray.size:Int)).toNat=j:=by
   rw[seqIndex_neg (by omega) h3] at h1
   rw[List.size_toArray,←hl]
   exact Option.some.inj h1
  exact PySem.W.ki_setBack ho (by omega) (by rw[List.size_toArray,←hl];exact h3) (by omega) (by rw[hk];exact⟨_,I',q⟩)
theorem adP(lo hi:Option Int)(n:Nat):(sliceBounds lo hi none n).1=((HT.fQ n 0 lo:Nat):Int)∧(sliceBounds lo hi none n).2.1=((HT.fQ n n hi:Nat):Int)∧(sliceBounds lo hi none n).2.2=1:=by
 refine⟨?_,?_,rfl⟩
 ·cases lo with
  |none=>simp[sliceBounds,HT.fQ]
  |some i=>
   simp only[sliceBounds,HT.fQ,Option.getD_none,show(1:Int)>0 by decide,if_true]
   by_cases h:i<0
   ·simp only[h,if_true]<;>omega
   ·simp only[h,if_false]<;>omega
 ·cases hi with
  |none=>simp[sliceBounds,HT.fQ]
  |some i=>
   simp only[sliceBounds,HT.fQ,Option.getD_none,show(1:Int)>0 by decide,if_true]
   by_cases h:i<0
   ·simp only[h,if_true]<;>omega
   ·simp only[h,if_false]<;>omega
theorem ado(its:List Value)(lo hi:Option Int):slicePick its.toArray lo hi none=((its.drop (HT.fQ its.length 0 lo)).take (HT.fQ its.length its.length hi - HT.fQ its.length 0 lo)).toArray:=by
 obtain⟨h1,h2,h3⟩:=adP lo hi its.toArray.size
 unfold slicePick
 rw[h1,h2,h3]
 simp only[sliceRange_one,pick_run,List.size_toArray]<;>rfl
def mH(K:PySem.W.Frag):V→Option Int→Option Int→Hp→VK→Prop:=fun x lo hi H Q=>∃a xs,x= .ref a∧au K H a xs∧∀p,H p=none→Q (.ref p) (upd H p (.lst (iD xs lo hi)))
theorem o7:SlR X (mH X.K):=by
 intro pins s σ H x v vl vu lo hi sl Q I rx hs pl pu h
 obtain⟨a,xs,rfl,hx,q⟩:=h
 cases rx
 obtain⟨its,r,ht,hz⟩:=I.list hx
 have hlen:=r.length
 refine⟨"list",_,slot_list_getitem.lookup,ht.isList.typeIs,?_⟩
 refine wpAny_getItem_list_slice ht.isList hs pl pu .none (by simp) ?_ (by rw[List.size_toArray]<;>omega)
 rw[ado,←hlen]
 refine⟨.ref s.heap.objs.size,_,I.laid (t':=s.toks) (o:=.lst (iD xs lo hi)) (fun b ob q=>Heap.get?_push_of_some _ q) (Nat.le_refl _) ?_,rfl,q _ (I.hok.fresh (Nat.le_refl _))⟩
 exact⟨Nat.le_trans (aeo xs lo hi) hz,_,0,(r.drop (HT.fQ xs.length 0 lo)).take (HT.fQ xs.length xs.length hi - HT.fQ xs.length 0 lo),Heap.get?_push_size _ rfl⟩
def mj:V→Bool
 | .non=>true
 | .bl _=>true
 | .int _=>true
 | .str _=>true
 |_=>false
def k_:V→V→Bool
 | .non,.non=>true
 | .bl a,.bl b=>a==b
 | .bl a,.int b=>(if a then 1 else 0)==b
 | .int a,.bl b=>a==(if b then 1 else 0)
 | .int a,.int b=>a==b
 | .str a,.str b=>a==b
 |_,_=>false
theorem ajF{A:Around}{s:Shared}{y x:V}{u v:Value}(ry:RelV y u)(rx:RelV x v)(fy:mj y=true)(fx:mj x=true):SeqAt.EqAt A s u v (k_ y x):=by
 cases y with
 |non=>
  cases ry
  cases x with
  |non=>cases rx;exact SeqAt.EqAt.same _
  |bl b=>cases rx;exact SeqAt.EqAt.none_bool b
  |int b=>obtain⟨t,rfl⟩:=rx;exact SeqAt.EqAt.none_int b t
  |str b=>obtain⟨t,rfl⟩:=rx;exact SeqAt.EqAt.none_str b t
  |_=>exact absurd (show false=true from fx) Bool.false_ne_true
 |bl a=>
  cases ry
  cases x with
  |non=>cases rx;exact SeqAt.EqAt.bool_none a
  |bl b=>cases rx;exact SeqAt.EqAt.bool_bool a b
  |int b=>obtain⟨t,rfl⟩:=rx;exact SeqAt.EqAt.bool_int a b t
  |str b=>obtain⟨t,rfl⟩:=rx;exact SeqAt.EqAt.bool_str a b t
  |_=>exact absurd (show false=true from fx) Bool.false_ne_true
 |int a=>
  obtain⟨t',rfl⟩:=ry
  cases x with
  |non=>cases rx;exact SeqAt.EqAt.int_none a t'
  |bl b=>cases rx;exact SeqAt.EqAt.int_bool a t' b
  |int b=>obtain⟨t,rfl⟩:=rx;exact SeqAt.EqAt.int_int a t' b t
  |str b=>obtain⟨t,rfl⟩:=rx;exact SeqAt.EqAt.int_str a t' b t
  |_=>exact absurd (show false=true from fx) Bool.false_ne_true
 |str a=>
  obtain⟨t',rfl⟩:=ry
  cases x with
  |non=>cases rx;exact SeqAt.EqAt.str_none a t'
  |bl b=>cases rx;exact SeqAt.EqAt.str_bool a t' b
  |int b=>obtain⟨t,rfl⟩:=rx;exact SeqAt.EqAt.str_int a t' b t
  |str b=>obtain⟨t,rfl⟩:=rx;exact SeqAt.EqAt.str_str a t' b t
  |_=>exact absurd (show false=true from fx) Bool.false_ne_true
 |_=>exact absurd (show false=true from fy) Bool.false_ne_true
def mU(x:V)(u:Value):Bool:=match u with
 | .none=>k_ .non x
 | .bool b=>k_ (.bl b) x
 | .int i _=>k_ (.int i) x
 | .str z _=>k_ (.str z) x
 |_=>false
theorem Z6{x y:V}{u:Value}(r:RelV y u)(f:mj y=true):mU x u=k_ y x:=by
 cases y with
 |non=>cases r;rfl
 |bl b=>cases r;rfl
 |int i=>obtain⟨t,rfl⟩:=r;rfl
 |str z=>obtain⟨t,rfl⟩:=r;rfl
 |_=>exact absurd (show false=true from f) Bool.false_ne_true
theorem K_{x:V}:∀{xs:List V} {us:List Value},Vals xs us→xs.all mj=true→us.any (mU x)=xs.any fun y=>k_ y x
 |_,_,.nil,_=>rfl
 |y::xs,u::us,.cons r t,f=>by
  rw[List.all_cons,Bool.and_eq_true] at f
  rw[List.any_cons,List.any_cons,Z6 r f.1,K_ t f.2]
theorem Ko{A:Around}{s:Shared}{x:V}{v:Value}(rx:RelV x v)(fx:mj x=true):∀{xs:List V} {us:List Value},Vals xs us→xs.all mj=true→∀u∈us,SeqAt.EqAt A s u v (mU x u)
 |_,_,.nil,_=>fun u hu=>by cases hu
 |y::xs,u::us,.cons r t,f=>fun u' hu=>by
  rw[List.all_cons,Bool.and_eq_true] at f
  rcases List.mem_cons.mp hu with rfl|hu
  ·rw[Z6 r f.1];exact ajF r rx f.1 fx
  ·exact Ko rx fx t f.2 u' hu
def inV(x:V)(xs:List V):Bool:=xs.any fun y=>k_ y x
def Cq(K:PySem.W.Frag)(neg:Bool):R2:=fun x y H Q=>∃p xs,y= .ref p∧(au K H p xs∨bK K H p xs)∧mj x=true∧xs.all mj=true∧Q (.bl (if neg then !inV x xs else inV x xs)) H
theorem WK:cP X (compareOp .In) (Cq X.K false):=by
 intro pins s σ H x y v u Q I rx ry h
 obtain⟨p,xs,rfl,hq,fx,fs,q⟩:=h
 cases ry
 rcases hq with hq|hq
 ·obtain⟨its,r,pl,hz⟩:=I.list hq
  refine SeqAt.in_listAt (mU x) pl.isList (fun w hw=>Ko rx fx r fs w (by simpa using hw)) ⟨.bl _,H,I,rfl,?_⟩
  rw[show its.toArray.any (mU x)=its.any (mU x) by simp,K_ r fs]
  exact q
 ·obtain⟨its,r,pl,hz⟩:=I.tuple hq
  refine SeqAt.in_tupleAt (mU x) pl (fun w hw=>Ko rx fx r fs w (by simpa using hw)) ⟨.bl _,H,I,rfl,?_⟩
  rw[show its.toArray.any (mU x)=its.any (mU x) by simp,K_ r fs]
  exact q
theorem cR:kO X (.builtin "len") (fun xs H Q=>∃p ys,xs=[.ref p]∧(au X.K H p ys∨bK X.K H p ys)∧Q (.int ys.length) H):=by
 intro pins s σ H xs us Q I r h
 obtain⟨p,ys,rfl,hq,q⟩:=h
 obtain⟨u,rfl,rx⟩:=vals1 r
 cases rx
 have hn:=pB
 rcases hq with hq|hq
 ·obtain⟨its,r',pl,hz⟩:=I.list hq
  have hlen:=r'.length
  exact Calls.call_len_list pl.isList (by simp only[List.size_toArray]<;>omega) ⟨.int ys.length,H,I.tok _,⟨s.toks+1,by rw[List.size_toArray,hlen]⟩,q⟩
 ·obtain⟨its,r',pl,hz⟩:=I.tuple hq
  have hlen:=r'.length
  exact len_tuple pl (by simp only[List.size_toArray]<;>omega) ⟨.int ys.length,H,I.tok _,⟨s.toks+1,by rw[List.size_toArray,hlen]⟩,q⟩
theorem Hf:kO X (.builtin "len") (fun xs H Q=>∃z,xs=[.str z]∧z.length≤sizeLine∧Q (.int z.length) H):=by
 intro pins s σ H xs us Q I r h
 obtain⟨z,rfl,hz,q⟩:=h
 obtain⟨u,rfl,t,rfl⟩:=vals1 r
 have hn:=pB
 exact len_str (by omega) ⟨.int z.length,H,I.tok _,⟨_,rfl⟩,q⟩
def Cr(K:PySem.W.Frag)(T:String)(x:V)(H:Hp):Prop:=match x with
 | .str _=>T="str"
 | .int _=>T="int"
 | .ref p=>(T="list"∧∃xs,au K H p xs)∨(T="tuple"∧∃o,K.lookup p=some o∧o.cls= .type "tuple"∧o.dict=none)∨
  (T="dict"∧((∃kvs,H p=some (.dK kvs))∨∃kvs,H p=some (.dT kvs)))∨(T="set"∧∃S n,H p=some (.set S n))
 |_=>False
theorem Z7{pins:List (Addr×Obj)}{σ:St}{H:Hp}{s:Shared}{T:String}{x:V}{v:Value}(I:Inv X pins σ H s)(r:RelV x v)(ty:Cr X.K T x H):
 s.TypeIs v T∧∀a,v= .ref a→∃ob,s.heap.get? a=some ob∧ob.dict=none:=by
 cases x with
 |str z=>
  obtain⟨t,rfl⟩:=r
  cases(show T="str" from ty)
  exact⟨typeIs_str s z t,fun _ e=>nomatch e⟩
 |int i=>
  obtain⟨t,rfl⟩:=r
  cases(show T="int" from ty)
  exact⟨typeIs_int s i t,fun _ e=>nomatch e⟩
 |ref p=>
  cases r
  rcases ty with⟨rfl,xs,hq⟩|⟨rfl,o,hk,hc,hd⟩|⟨rfl,hk⟩|⟨rfl,S,n,hk⟩
  ·obtain⟨its,_,pl,_⟩:=I.list hq
   refine⟨pl.isList.typeIs,fun a e=>?_⟩
   cases e
   obtain⟨o,n,e,c,hd,_⟩:=pl
   exact⟨o,e,hd⟩
  ·refine⟨⟨o,I.gQ p o hk,hc⟩,fun a e=>?_⟩
   cases e
   exact⟨o,I.gQ _ o hk,hd⟩
  ·have z:∃o,s.heap.get? p=some o∧o.ExactDict:=by
    rcases hk with⟨kvs,hk⟩|⟨kvs,hk⟩
    ·obtain⟨_,_,_,_,o,_,_,e,ex,_⟩:=I.hok p _ hk
     exact⟨o,e,ex⟩
    ·obtain⟨_,_,_,_,o,_,_,e,ex,_⟩:=I.hok p _ hk
     exact⟨o,e,ex⟩
   obtain⟨o,e,ex⟩:=z
   refine⟨⟨o,e,ex.1⟩,fun a e2=>?_⟩
   cases e2
   exact⟨o,e,ex.2.1⟩
  ·obtain⟨o,_,_,_,e,ex,_⟩:=I.hok p _ hk
   refine⟨⟨o,e,ex.1⟩,fun a e2=>?_⟩
   cases e2
   exact⟨o,e,ex.2.1⟩
 |_=>exact False.elim ty
def Bt(K:PySem.W.Frag)(T:String)(r:V→List V→Hp→VK→Prop)(to:TE):TE:=fun σ H Q=>to σ H fun x H1=>Cr K T x H1∧r x [] H1 Q
def i_(K:PySem.W.Frag)(T:String)(r:V→List V→Hp→VK→Prop)(to:TE)(t:TA):TE:=fun σ H Q=>to σ H fun x H1=>Cr K T x H1∧t σ H1 fun xs H2=>r x xs H2 Q
variable{o e:Expr}{es:List Expr}{to:TE}{t:TA}{name:Str}{apos cpos:Pos}{T id:String}{r:V→List V→Hp→VK→Prop}
theorem Z8(pa:PlainAttrs T)(slot:Slot T name id)(hty:typeOf (.builtin id)=pure (.type "method_descriptor"))(hm:mR X id r)(ho:PE X o to)
 (hbase:attributeBase o name X.env (eval o X.env)=eval o X.env:=by rfl)(hline:(apos.endLine==cpos.line)=true:=by rfl):PE X (.Call (.Attribute o name apos) [] [] cpos) (Bt X.K T r to):=by
 intro pins s σ H Q I h
 refine wpAny_Call_method0_late hbase hline (aN (ho pins s σ H _ I h) fun v s1 ⟨x,H1,I1,r1,ty,q1⟩=>?_)
 obtain⟨h1,h2⟩:=Z7 I1 r1 ty
 exact⟨T,id,pa,slot,hty,h1,h2,Calls.callWith_builtin rfl (PySem.evalArgs_none (hm pins s1 σ H1 x [] v [] Q I1 r1 .nil q1))⟩
theorem jQ(pa:PlainAttrs T)(slot:Slot T name id)(hty:typeOf (.builtin id)=pure (.type "method_descriptor"))(hm:mR X id r)(ho:PE X o to)(ha:PA X (e::es) t)
 (hbase:attributeBase o name X.env (eval o X.env)=eval o X.env:=by rfl)
 (hfew:((backTo cpos (starEach (e::es) X.env)).all (fun x=> !x.1)&&(backToKw cpos (keywordEach [] X.env)).all (fun x=>x.1.isSome)
   &&decide ((e::es).length+([]:List Keyword).length+(if([]:List Keyword).isEmpty then 0 else 1)<30))=true:=by rfl)
 (hline:(apos.endLine==cpos.line)=true:=by rfl)(hs:starEach (e::es) X.env=(false,eval e X.env)::starEach es X.env:=by rfl)(hplain:(backTo cpos (starEach es X.env)).any (·.1)=false:=by rfl):
 PE X (.Call (.Attribute o name apos) (e::es) [] cpos) (i_ X.K T r to t):=by
 intro pins s σ H Q I h
 refine wpAny_Call_method_late hbase hfew hline rfl (aN (ho pins s σ H _ I h) fun v s1 ⟨x,H1,I1,r1,ty,q1⟩=>?_)
 obtain⟨h1,h2⟩:=Z7 I1 r1 ty
 refine⟨T,id,pa,slot,hty,h1,h2,?_⟩
 have hA:=ha cpos pins s1 σ H1 _ I1 q1
 rw[hs] at hA⊢
 refine Calls.callWith_builtin (by show(false||(backTo cpos (starEach es X.env)).any (·.1))=false;rw[hplain]<;>rfl) (Calls.evalArgs_plain ?_)
 exact aN hA fun us s2 ⟨vs,H2,I2,r2,q2⟩=>hm pins s2 σ H2 x vs v us Q I2 r1 r2 q2
end
end L2
namespace L2
open PySem PySem.Spec PyProof.Rows
def vH(X:Cx)(id:String)(r:V→List V→Hp→VK→Prop):Prop:=
 ∀(pins:List (Addr×Obj)) (s:Shared) (σ:St) (H:Hp) (x:V) (xs:List V) (v:Value) (us:List Value) (Q:VK),Inv X pins σ H s→RelV x v→Vals xs us→r x xs H Q→
  wpAny (model X.prog X.w) X.A (call (.builtin id) (v::us)) (EP X pins σ Q) X.xe s
theorem Vals.one:∀{x:V} {us:List Value},Vals [x] us→∃u,us=[u]∧RelV x u
 |_,_,.cons r .nil=>⟨_,rfl,r⟩
theorem Vals.zero:∀{us:List Value},Vals [] us→us=[]
 |_,.nil=>rfl
theorem Vals.dropLast{xs:List V}{us:List Value}(h:Vals xs us):Vals xs.dropLast us.dropLast:=by
 induction h with
 |nil=>exact .nil
 |cons r t ih=>
  cases t with
  |nil=>exact .nil
  |cons q t'=>exact .cons r ih
theorem Vals.eraseIdx:∀{xs:List V} {us:List Value} (i:Nat),Vals xs us→Vals (xs.eraseIdx i) (us.eraseIdx i)
 |_,_,_,.nil=>.nil
 |_,_,0,.cons _ t=>t
 |_,_,i+1,.cons r t=>.cons r (Vals.eraseIdx i t)
theorem afc{α:Type}(l:List α):l.eraseIdx (l.length - 1)=l.dropLast:=by
 induction l with
 |nil=>rfl
 |cons a r ih=>
  cases r with
  |nil=>rfl
  |cons b r=>
   have e:(a::b::r).length - 1=((b::r).length - 1)+1:=by
    have h1:(a::b::r).length=r.length+2:=rfl
    have h2:(b::r).length=r.length+1:=rfl
    omega
   rw[e,List.eraseIdx_cons_succ,ih]
   all_goals rfl
section
variable{X:Cx}{pins:List (Addr×Obj)}{σ:St}{H:Hp}{s:Shared}{l b:Addr}{xs ys zs:List V}
theorem Inv.Bu{its its':List Value}{n:Nat}{f:Array Value→Array Value}{t':Nat}(I:Inv X pins σ H s)(hH:H l=some (.lst xs))
 (e:s.heap.get? l=some {cls:=.type "list",data:=.seq its.toArray n})(hf:f its.toArray=its'.toArray)(hv:Vals ys its')(hz:ys.length≤sizeLine):
 Inv X pins σ (upd H l (.lst ys)) {s with heap:=s.heap.update l (Obj.mapSeq f),toks:=t'}:=by
 have q:=PySem.IsL.update e f
 rw[hf] at q
 refine I.write (x:=l) (e:=l) (by rw[hH];exact trivial) (.inl rfl) (fun b' u hb hu=>(Heap.get?_update_other s.heap (Obj.mapSeq f) (Ne.symm hb)).trans hu) ⟨_,q⟩ ?_
 exact⟨hz,its',_,hv,q⟩
theorem Inv.ak3{its:List Value}{t':Nat}(I:Inv X pins σ H s)(hv:Vals ys its)(hz:ys.length≤sizeLine):
 Inv X pins σ (upd H s.heap.objs.size (.lst ys)) {s with heap:=s.heap.push {cls:=.type "list",data:=.seq its.toArray},toks:=t'}:=
 I.laid (fun _ _ q=>Heap.get?_push_of_some _ q) (Nat.le_refl _) ⟨hz,its,0,hv,Heap.get?_push_size _ rfl⟩
theorem Inv.fresh(I:Inv X pins σ H s):H s.heap.objs.size=none:=I.hok.fresh (Nat.le_refl _)
theorem Inv.pK(I:Inv X pins σ H s)(hH:H l=some (.lst xs)):xs.length≤sizeLine∧∃(its:List Value) (n:Nat),Vals xs its∧xs.length=its.length∧s.heap.get? l=some {cls:=.type "list",data:=.seq its.toArray n}:=by
 obtain⟨z,its,n,r,e⟩:=I.hok l _ hH
 exact⟨z,its,n,r,r.length,e⟩
theorem ahi{n:Nat}(h:n≤sizeLine):Builtin.List.listTooLong n=false:=by
 unfold Builtin.List.listTooLong
 exact decide_eq_false (by omega)
end
section
variable{X:Cx}
def lM:V→List V→Hp→VK→Prop:=fun x vs H Q=>∃l xs y,x= .ref l∧vs=[y]∧H l=some (.lst xs)∧xs.length<sizeLine∧Q .non (upd H l (.lst (xs++[y])))
theorem oV:vH X "list.append" lM:=by
 intro pins s σ H x vs v us Q I rx rv h
 obtain⟨l,xs,y,rfl,rfl,hH,hz,q⟩:=h
 cases rx
 obtain⟨u,rfl,ru⟩:=rv.one
 obtain⟨z,its,n,r,hl,e⟩:=I.pK hH
 refine call_meets F.slot_list_append ⟨_,e,rfl⟩ F.entry_list_append (F.args_list_append_2 _ _) (PySem.list_append l its.toArray n u (by rw[List.size_toArray];omega)) ⟨e,?_⟩
 refine⟨.non,_,I.Bu (its':=its++[u]) hH e (by simp) (r.append (.cons ru .nil)) ?_,rfl,q⟩
 rw[List.length_append,List.length_singleton]
 omega
def zQ:V→List V→Hp→VK→Prop:=fun x vs H Q=>∃l b xs zs,x= .ref l∧vs=[.ref b]∧H l=some (.lst xs)∧H b=some (.lst zs)∧xs.length+zs.length≤sizeLine∧Q .non (upd H l (.lst (xs++zs)))
theorem WL:vH X "list.extend" zQ:=by
 intro pins s σ H x vs v us Q I rx rv h
 obtain⟨l,b,xs,zs,rfl,rfl,hH,hB,hz,q⟩:=h
 cases rx
 obtain⟨u,rfl,ru⟩:=rv.one
 cases ru
 obtain⟨z,its,n,r,hl,e⟩:=I.pK hH
 obtain⟨z2,its2,n2,r2,hl2,e2⟩:=I.pK hB
 have hsz:its.toArray.size+its2.toArray.size≤sizeLine:=by rw[List.size_toArray,List.size_toArray];omega
 have aky:¬(!its.toArray.isEmpty&&Builtin.List.listTooLong (its.toArray.size+its2.toArray.size))=true:=by
  rw[ahi hsz,Bool.and_false]
  exact Bool.false_ne_true
 refine call_meets F.slot_list_extend ⟨_,e,rfl⟩ F.entry_list_extend (F.args_list_extend_2 _ _)
  (AutoSeq1.list_extend_list_list_0 l its.toArray n b its2.toArray n2 aky (by rw[List.size_toArray];omega) (by omega)) ⟨e,e2,?_⟩
 refine⟨.non,_,I.Bu (its':=its++its2) hH e (by simp) (r.append r2) ?_,rfl,q⟩
 rw[List.length_append]
 omega
def NT:V→List V→Hp→VK→Prop:=fun x vs H Q=>∃l xs y,x= .ref l∧vs=[]∧H l=some (.lst xs)∧xs[xs.length - 1]? =some y∧Q y (upd H l (.lst xs.dropLast))
theorem ajG:vH X "list.pop" NT:=by
 intro pins s σ H x vs v us Q I rx rv h
 obtain⟨l,xs,y,rfl,rfl,hH,hy,q⟩:=h
 cases rx
 have hus:=rv.zero
 subst hus
 obtain⟨z,its,n,r,hl,e⟩:=I.pK hH
 obtain⟨u,hu,ru⟩:=r.get hy
 have hy':its.toArray[its.toArray.size - 1]? =some u:=by
  show its.toArray[its.length - 1]? =some u
  rw[←Array.getElem?_toList,←hl]
  exact hu
 refine call_meets F.slot_list_pop ⟨_,e,rfl⟩ F.entry_list_pop (F.args_list_pop_1 _) (MeetsSeq.list_pop_last l its.toArray n u hy' (by rw[List.size_toArray];omega)) ⟨e,?_⟩
 refine⟨y,_,I.Bu (its':=its.dropLast) hH e ?_ r.dropLast ?_,ru,q⟩
 ·show its.toArray.eraseIdxIfInBounds (its.toArray.size - 1)=its.dropLast.toArray
  rw[List.size_toArray,List.eraseIdxIfInBounds_toArray,afc]
 ·rw[List.length_dropLast]
  omega
def iW:R2:=fun x y H Q=>∃l b xs zs,x= .ref l∧y= .ref b∧H l=some (.lst xs)∧H b=some (.lst zs)∧xs.length+zs.length≤sizeLine∧∀p,H p=none→Q (.ref p) (upd H p (.lst (xs++zs)))
theorem jM:cP X (binaryOp .Add) iW:=by
 intro pins s σ H x y v u Q I rx ry h
 obtain⟨l,b,xs,zs,rfl,rfl,hH,hB,hz,q⟩:=h
 cases rx
 cases ry
 obtain⟨z,its,n,r,hl,e⟩:=I.pK hH
 obtain⟨z2,its2,n2,r2,hl2,e2⟩:=I.pK hB
 refine PySem.P.add_list e e2 ?_ (by rw[List.size_toArray,List.size_toArray];omega)
 have ea:its.toArray++its2.toArray=(its++its2).toArray:=by simp
 rw[ea]
 exact⟨.ref _,_,I.ak3 (t':=s.toks) (r.append r2) (by rw[List.length_append];omega),rfl,q _ I.fresh⟩
end
section
variable{prog:Program}{w:World}{A:Around}{E:Value→Shared→Prop}{s:Shared}
set_option maxRecDepth 100000 in
end
end L2
namespace L2
open PySem PySem.Spec PyProof.Rows
theorem Vals.ints:∀{ns:List Int} {us:List Value},Vals (ns.map V.int) us→IntsAre us ns
 | [],us,h=>by
   rw[List.map_nil] at h
   cases h
   exact IntsAre.nil
 |n::ns,us,h=>by
  rw[List.map_cons] at h
  cases h with
  |cons r t=>
   obtain⟨k,rfl⟩:=r
   exact IntsAre.cons n k (Vals.ints t)
theorem Hg:∀{us:List Value} {ns:List Int},IntsAre us ns→Vals (ns.map V.int) us
 |_,_,.nil=>by rw[List.map_nil];exact Paired.nil
 |_,_,.cons n t h=>by rw[List.map_cons];exact Paired.cons (show RelV (V.int n) (Value.int n t) from⟨t,rfl⟩) (Hg h)
theorem Vals.bls:∀{bs:List Bool} {us:List Value},Vals (bs.map V.bl) us→us=bs.map Value.bool
 | [],us,h=>by
   rw[List.map_nil] at h
   cases h
   rfl
 |b::bs,us,h=>by
  rw[List.map_cons] at h
  cases h with
  |cons r t=>
   cases r
   rw[Vals.bls t,List.map_cons]
theorem Vals.vf{a:Addr}{us:List Value}(r:Vals [V.ref a] us):us=[Value.ref a]:=by
 cases r with
 |cons r t=>
  cases t
  cases r
  rfl
section
variable{prog:Program}{w:World}{A:Around}{E:Value→Shared→Prop}{s:Shared}{l:Addr}{its:List Value}{ns:List Int}{Q:Value→Shared→Prop}
theorem ais(hh:A.handled=none)(hl:s.heap.IsList l its.toArray)(hi:IntsAre its ns)
 (h:∀h' tk t',(∀b o,s.heap.get? b=some o→h'.get? b=some o)→Q (.int ns.sum t') {s with heap:=h',toks:=tk}):wpAny (model prog w) A (call (.builtin "sum") [.ref l]) Q E s:=by
 obtain⟨xs,e⟩:=hi.allInts.items
 have hn:numsOf (intItems xs).toList=ns:=by rw[←e];exact hi.numsOf
 rw[nums_intItems] at hn
 rw[e] at hl
 refine PySem.sum_intListG hh hl fun h' tk t' hk=>?_
 have:=h h' tk t' hk
 rw[preSum_eq,List.take_of_length_le (by simp),hn];exact this
end
section
variable{X:Cx}
def Bv(K:PySem.W.Frag):List V→Hp→VK→Prop:=fun vs H Q=>∃(a:Addr) (ns:List Int),vs=[V.ref a]∧au K H a (ns.map V.int)∧Q (.int ns.sum) H
theorem Z9(hc:X.calm=true):kO X (.builtin "sum") (Bv X.K):=by
 intro pins s σ H vs us Q I r h
 obtain⟨a,ns,rfl,hs,q⟩:=h
 obtain⟨its,rv,hl,_⟩:=I.list hs
 rw[Vals.vf r]
 exact ais (I.ok.hd hc) hl.isList rv.ints fun h' tk t' hk=>⟨.int _,H,I.kept hk,⟨_,rfl⟩,q⟩
end
theorem ahj{prog:Program}{w:World}{A:Around}{E:Value→Shared→Prop}{s:Shared}{l:Addr}{items:Array Value}{Q:Value→Shared→Prop}(hl:s.heap.IsList l items)
 (h:∀s₂:Shared,s₂= {s with heap:=s.heap.push {cls:=.type "list_iterator",data:=.fields #[.ref l,.int 0 0]}}→
   (s₂.heap.IsListIter s.heap.objs.size l 0∧s₂.heap.IsList l items)→l≠s.heap.objs.size→Q (.ref s.heap.objs.size) s₂):wpAny (model prog w) A (pyIter (.ref l)) Q E s:=by
 have hlt:l<s.heap.objs.size:=by obtain⟨_,e,_⟩:=hl;exact Heap.lt_size e
 exact wpAny_pyIter_list hl (h _ rfl ⟨⟨_,Heap.get?_push_size _ rfl,rfl,rfl⟩,hl.push _⟩ (Nat.ne_of_lt hlt))
theorem aep{prog:Program}{w:World}{A:Around}{bs:List Bool}{its:List Value}(e:its=bs.map Value.bool):
 TruthOf prog w A (fun i v=>its.toArray[i]? =some v) (fun i=>bs.getD i false):=fun i v s Q E hv hq=>by
 have hv':its[i]? =some v:=by simpa using hv
 rw[e,List.getElem?_map] at hv'
 obtain⟨b,hb,rfl⟩:=Option.map_eq_some_iff.mp hv'
 have hg:bs.getD i false=b:=by rw[List.getD_eq_getElem?_getD,hb]<;>rfl
 have hq':Q (bs.getD i false) s:=hq
 rw[hg] at hq'
 exact wpAny_truthy_bool hq'
theorem all_range:∀bs:List Bool,(List.range bs.length).all (fun i=>bs.getD i false)=bs.all id
 | []=>rfl
 |b::bs=>by
  rw[List.length_cons,List.range_succ_eq_map,List.all_cons,List.all_map,List.all_cons,←all_range bs]
  all_goals rfl
section
variable{X:Cx}
def sH(K:PySem.W.Frag):List V→Hp→VK→Prop:=fun vs H Q=>∃(a:Addr) (bs:List Bool),vs=[V.ref a]∧au K H a (bs.map V.bl)∧Q (.bl (bs.all id)) H
theorem Ah(hc:X.calm=true):kO X (.builtin "all") (sH X.K):=by
 intro pins s σ H vs us Q I r h
 obtain⟨a,bs,rfl,hs,q⟩:=h
 obtain⟨its,rv,hl,_⟩:=I.list hs
 rw[Vals.vf r]
 have hb:=rv.bls
 refine call_all_walk (ahj hl.isList fun s₂ e2 st hne=>?_)
 subst e2
 refine⟨_,_,_,_,_,_,_,rfl,Walks.list (A:=X.A.in1) (I.ok.hd hc) _ a hne its.toArray,st,aep hb,fun h' tk hk=>?_⟩
 refine⟨.bl _,H,I.kept fun b o eo=>hk b o (fun hmem=>?_) (Heap.get?_push_of_some _ eo),?_,q⟩
 ·rcases List.mem_cons.mp hmem with e1|hmem
  ·exact absurd (e1▸Heap.lt_size eo) (Nat.lt_irrefl _)
  ·cases hmem
 ·show Value.bool _=Value.bool _
  rw[←all_range,hb,List.size_toArray,List.length_map]
end
mutual
inductive Dp(K:PySem.W.Frag)(H:Hp):V→PyData→Prop
 |non:Dp K H .non .none
 |bl (b:Bool):Dp K H (.bl b) (.bool b)
 |int (i:Int):Dp K H (.int i) (.int i)
 |str (x:Str):Dp K H (.str x) (.str x)
 |lst {a:Addr} {xs:List V} {ds:List PyData}:au K H a xs→n6 K H xs ds→Dp K H (.ref a) (.list ds)
 |tup {a:Addr} {xs:List V} {ds:List PyData}:bK K H a xs→n6 K H xs ds→Dp K H (.ref a) (.tuple ds)
inductive n6(K:PySem.W.Frag)(H:Hp):List V→List PyData→Prop
 |nil:n6 K H [] []
 |cons {v:V} {vs:List V} {d:PyData} {ds:List PyData}:Dp K H v d→n6 K H vs ds→n6 K H (v::vs) (d::ds)
end
section
variable{X:Cx}{pins:List (Addr×Obj)}{σ:St}{H:Hp}{s:Shared}
mutual
theorem Dp.reads(I:Inv X pins σ H s):∀(d:PyData) (v:V) (u:Value),Dp X.K H v d→RelV v u→∃as,Reads s.heap u d as
 | .none,_,_,h,r=>by
   cases h
   cases r
   exact⟨_,Reads.none⟩
 | .bool b,_,_,h,r=>by
   cases h
   cases r
   exact⟨_,Reads.bool b⟩
 | .int i,_,_,h,r=>by
   cases h
   obtain⟨t,rfl⟩:=r
   exact⟨_,Reads.int i t⟩
 | .str x,_,_,h,r=>by
   cases h
   obtain⟨t,rfl⟩:=r
   exact⟨_,Reads.str x t⟩
 | .list ds,_,_,h,r=>by
   cases h with
   |lst hs ha=>
    cases r
    obtain⟨its,rv,⟨o,n,ho,hc,_,hd⟩,_⟩:=I.list hs
    obtain⟨as,hr⟩:=Dp.readsAll I ds _ its ha rv
    exact⟨_,Reads.list ho hc hd hr⟩
 | .tuple ds,_,_,h,r=>by
   cases h with
   |tup hs ha=>
    cases r
    obtain⟨its,rv,⟨o,ho,hc,n,hd⟩,_⟩:=I.tuple hs
    obtain⟨as,hr⟩:=Dp.readsAll I ds _ its ha rv
    exact⟨_,Reads.tuple ho hc hd hr⟩
 | .dict _,_,_,h,_=>by cases h
theorem Dp.readsAll(I:Inv X pins σ H s):∀(ds:List PyData) (vs:List V) (us:List Value),n6 X.K H vs ds→Vals vs us→∃as,ReadsAll s.heap us ds as
 | [],_,_,h,r=>by
   cases h
   cases r
   exact⟨_,ReadsAll.nil⟩
 |d::ds,_,_,h,r=>by
  cases h with
  |cons h1 h2=>
   cases r with
   |cons r1 r2=>
    obtain⟨as,q1⟩:=Dp.reads I d _ _ h1 r1
    obtain⟨bs,q2⟩:=Dp.readsAll I ds _ _ h2 r2
    exact⟨_,ReadsAll.cons q1 q2⟩
end
end
section
variable{X:Cx}
def aaX(K:PySem.W.Frag):R2:=fun x y H Q=>∃d e,Dp K H x d∧Dp K H y e∧SeqAt.shaped d=true∧SeqAt.shaped e=true∧Q (.bl (PyData.eqv d e)) H
def aaY(K:PySem.W.Frag):R2:=fun x y H Q=>∃d e,Dp K H x d∧Dp K H y e∧SeqAt.shaped d=true∧SeqAt.shaped e=true∧Q (.bl (!PyData.eqv d e)) H
theorem ajH(hu:X.A.units+64<cLine):cP X (compareOp .Eq) (aaX X.K):=by
 intro pins s σ H x y v u Q I rx ry h
 obtain⟨d,e,hd,he,sd,se,q⟩:=h
 obtain⟨as,r1⟩:=Dp.reads I d x v hd rx
 obtain⟨bs,r2⟩:=Dp.reads I e y u he ry
 exact SeqAt.compareEq_shaped r1 r2 sd se hu ⟨.bl _,H,I,rfl,q⟩
theorem ajI(hu:X.A.units+64<cLine):cP X (compareOp .NotEq) (aaY X.K):=by
 intro pins s σ H x y v u Q I rx ry h
 obtain⟨d,e,hd,he,sd,se,q⟩:=h
 obtain⟨as,r1⟩:=Dp.reads I d x v hd rx
 obtain⟨bs,r2⟩:=Dp.reads I e y u he ry
 exact SeqAt.compareNe_shaped r1 r2 sd se hu ⟨.bl _,H,I,rfl,q⟩
end
end L2
namespace L2
open PySem PySem.Spec PyProof.Rows
abbrev Z_(h:Heap)(c:Addr)(v:Option Value):Prop:=h.IsCell c v
def ak4(scope sc:Scope):Scope:=
 {scope with names:=scope.names.map fun(n,k)=>if(k== .free&&sc.kind== .function&&sc.names.lookup n==some .cell) then(n,.cell) else(n,k)}
def eE(cells:List (Str×Addr)):List (Str×NameKind)→List (Str×Addr)→List (Str×Addr)
 | [],acc=>acc
 |(n,k)::r,acc=>if k== .free then eE cells r ((n,(cells.lookup n).getD 0)::acc) else eE cells r acc
theorem Ub(env:Env)(f:Str×NameKind→List (Str×Addr)→Sem (ForInStep (List (Str×Addr))))
 (hf:∀n k c,f (n,k) c=if k== .free then(do let a←cellOf env n;pure (.yield ((n,a)::c))) else pure (.yield c)):
 ∀(names:List (Str×NameKind)) (acc:List (Str×Addr)),(∀y∈names,y.2= .free→∃c,env.cells.lookup y.1=some c)→forIn names acc f=pure (eE env.cells names acc)
 | [],acc,_=>by rw[List.forIn_nil];rfl
 |(n,k)::r,acc,h=>by
  rw[List.forIn_cons,hf]
  have ih:=fun acc=>Ub env f hf r acc fun y hy=>h y (List.mem_cons_of_mem _ hy)
  unfold eE
  by_cases hk:(k==NameKind.free)=true
  ·rw[if_pos hk,if_pos hk]
   obtain⟨c,hc⟩:=h (n,k) List.mem_cons_self (by simpa using hk)
   have e:cellOf env n=pure c:=by unfold cellOf;rw[hc]
   rw[e]
   have e2:(env.cells.lookup n).getD 0=c:=by rw[hc];rfl
   rw[e2]
   exact ih _
  ·rw[if_neg hk,if_neg hk]
   exact ih _
theorem afd{scope:Scope}{env:Env}(h:∀y∈scope.names,y.2= .free→∃c,env.cells.lookup y.1=some c):closureFor scope env=pure (eE env.cells scope.names []):=by
 simp only[closureFor]
 rw[Ub env _ (fun n k c=>rfl) scope.names [] h]
 rfl
theorem mem_lookup{α:Type}:∀{l:List (Str×α)} {n:Str} {c:α},(n,c)∈l→∃c',l.lookup n=some c'
 |(k,v)::r,n,c,h=>by
  rw[List.lookup_cons]
  cases hb:n==k with
  |true=>exact⟨_,rfl⟩
  |false=>
   rcases List.mem_cons.mp h with e|h
   ·cases e;simp at hb
   ·exact mem_lookup h
theorem yF{cells:List (Str×Addr)}:∀{names:List (Str×NameKind)} {acc:List (Str×Addr)} {n:Str} {c:Addr},(n,c)∈eE cells names acc→(n,c)∈acc∨((n,.free)∈names∧c=(cells.lookup n).getD 0)
 | [],_,_,_,h=>.inl h
 |(m,k)::r,acc,n,c,h=>by
  unfold eE at h
  split at h
  ·rename_i hk
   have hk:k= .free:=by simpa using hk
   rcases yF h with h|⟨h1,h2⟩
   ·rcases List.mem_cons.mp h with e|h
    ·cases e;exact .inr ⟨hk▸List.mem_cons_self,rfl⟩
    ·exact .inl h
   ·exact .inr ⟨List.mem_cons_of_mem _ h1,h2⟩
  ·rcases yF h with h|⟨h1,h2⟩
   ·exact .inl h
   ·exact .inr ⟨List.mem_cons_of_mem _ h1,h2⟩
theorem HW{cells:List (Str×Addr)}:∀{names:List (Str×NameKind)} {acc:List (Str×Addr)} {p:Str×Addr},p∈acc→p∈eE cells names acc
 | [],_,_,h=>h
 |(m,k)::r,acc,p,h=>by
  unfold eE
  split
  ·exact HW (List.mem_cons_of_mem _ h)
  ·exact HW h
theorem HX{cells:List (Str×Addr)}:∀{names:List (Str×NameKind)} {acc:List (Str×Addr)} {n:Str},(n,.free)∈names→(n,(cells.lookup n).getD 0)∈eE cells names acc
 |(m,k)::r,acc,n,h=>by
  unfold eE
  rcases List.mem_cons.mp h with e|h
  ·cases e
   exact HW List.mem_cons_self
  ·split
   ·exact HX h
   ·exact HX h
theorem ud:∀{names:List (Str×NameKind)} {h:Heap} {acc:List (Str×Addr)} {x:Str} {c:Addr},(x,c)∈cellsFrom h.objs.size names acc→
 (x,c)∈acc∨((x,.cell)∈names∧h.objs.size≤c∧Z_ (pushCells h names) c none)
 | [],_,_,_,_,h=>.inl h
 |(n,k)::r,h,acc,x,c,hm=>by
  unfold cellsFrom at hm
  unfold pushCells
  split at hm
  ·rename_i hk
   rw[if_pos hk]
   have hk:k= .cell:=by simpa using hk
   rw[←Heap.size_push h {cls:=.type "cell",data:=.cell none}] at hm
   rcases ud hm with hm|⟨h1,h2,h3⟩
   ·rcases List.mem_cons.mp hm with e|hm
    ·cases e
     exact .inr ⟨hk▸List.mem_cons_self,Nat.le_refl _,_,pushCells_keeps r _ _ _ (Heap.get?_push_size _ rfl),rfl⟩
    ·exact .inl hm
   ·rw[Heap.size_push] at h2
    exact .inr ⟨List.mem_cons_of_mem _ h1,Nat.le_of_succ_le h2,h3⟩
  ·rename_i hk
   rw[if_neg hk]
   rcases ud hm with hm|⟨h1,h2,h3⟩
   ·exact .inl hm
   ·exact .inr ⟨List.mem_cons_of_mem _ h1,h2,h3⟩
theorem yU:∀{names:List (Str×NameKind)} {n:Nat} {acc:List (Str×Addr)} {p:Str×Addr},p∈acc→p∈cellsFrom n names acc
 | [],_,_,_,h=>h
 |(m,k)::r,n,acc,p,h=>by
  unfold cellsFrom
  split
  ·exact yU (List.mem_cons_of_mem _ h)
  ·exact yU h
theorem Jy:∀{names:List (Str×NameKind)} {n:Nat} {acc:List (Str×Addr)} {x:Str},(x,.cell)∈names→∃c,(x,c)∈cellsFrom n names acc
 |(m,k)::r,n,acc,x,h=>by
  unfold cellsFrom
  rcases List.mem_cons.mp h with e|h
  ·cases e
   exact⟨n,yU List.mem_cons_self⟩
  ·split
   ·exact Jy h
   ·exact Jy h
theorem Jz:∀{names:List (Str×NameKind)} {h:Heap} {acc:List (Str×Addr)} {x y:Str} {c:Addr},(∀p∈acc,p.2<h.objs.size)→(∀x y c,(x,c)∈acc→(y,c)∈acc→x=y)→
 (x,c)∈cellsFrom h.objs.size names acc→(y,c)∈cellsFrom h.objs.size names acc→x=y
 | [],_,_,_,_,_,_,hi,h1,h2=>hi _ _ _ h1 h2
 |(n,k)::r,h,acc,x,y,c,hl,hi,h1,h2=>by
  unfold cellsFrom at h1 h2
  split at h1
  ·rename_i hk
   rw[if_pos hk] at h2
   rw[←Heap.size_push h {cls:=.type "cell",data:=.cell none}] at h1 h2
   refine Jz (h:=h.push _) (fun p hp=>?_) (fun x y c a b=>?_) h1 h2
   ·rw[Heap.size_push]
    rcases List.mem_cons.mp hp with rfl|hp
    ·exact Nat.lt_succ_self _
    ·exact Nat.lt_succ_of_lt (hl p hp)
   ·rcases List.mem_cons.mp a with e|a<;>rcases List.mem_cons.mp b with e'|b
    ·cases e;cases e';rfl
    ·cases e;exact absurd (hl _ b) (Nat.lt_irrefl _)
    ·cases e';exact absurd (hl _ a) (Nat.lt_irrefl _)
    ·exact hi _ _ _ a b
  ·rename_i hk
   rw[if_neg hk] at h2
   exact Jz hl hi h1 h2
theorem aer{M:Model}{A:Around}{E:Value→Shared→Prop}{s:Shared}{scope:Scope}{globals:Addr}{closure:List (Str×Addr)}{qual:Str}{func:Option Addr}{code:Value}{around:Env}{builtins:Addr}{Q:Env→Shared→Prop}
 (h:Q (newEnv scope s.heap.objs.size globals (cellsFrom (s.heap.objs.size+1) scope.names closure) qual func code (some around) builtins)
   {s with heap:=pushCells (s.heap.push {cls:=.type "dict",data:=.dict #[]}) scope.names}):
 wpAny M A (newFunctionEnv scope globals closure [] qual func code (some around) builtins) Q E s:=by
 simp only[newFunctionEnv,Option.isSome_some,if_true]
 refine wpAny_bind (wpAny_alloc ?_)
 refine wpAny_bind (wpAny_layCells _ (fun n k c=>rfl) scope.names closure _ _ ?_)
 rw[show({s with heap:=s.heap.push {cls:=.type "dict",data:=.dict #[]}}:Shared).heap.objs.size=s.heap.objs.size+1 from Heap.size_push ..]
 rw[List.forIn_nil]
 exact wpAny_bind (wpAny_pure (wpAny_pure h))
theorem HY{sc:Scope}:∀{names:List (Str×NameKind)} {x:Str} {k:NameKind},
 (names.map fun(n,k)=>if(k==NameKind.free&&sc.kind== .function&&sc.names.lookup n==some .cell) then(n,NameKind.cell) else(n,k)).lookup x=some k→
 ∃k',names.lookup x=some k'∧(k=k'∨(k'= .free∧k= .cell))
 | [],_,_,h=>by simp at h
 |(n,k₀)::r,x,k,h=>by
  have ih:=@HY sc r x k
  have h':List.lookup x ((if(k₀==NameKind.free&&sc.kind== .function&&sc.names.lookup n==some .cell)=true then(n,NameKind.cell) else(n,k₀))::(r.map _))=some k:=h
  cases hx:x==n with
  |true=>
   simp only[List.lookup_cons,hx]
   by_cases hc:(k₀==NameKind.free&&sc.kind== .function&&sc.names.lookup n==some .cell)=true
   ·rw[if_pos hc] at h'
    simp only[List.lookup_cons,hx] at h'
    cases h'
    simp only[Bool.and_eq_true,beq_iff_eq] at hc
    exact⟨k₀,rfl,.inr ⟨hc.1.1,rfl⟩⟩
   ·rw[if_neg hc] at h'
    simp only[List.lookup_cons,hx] at h'
    cases h'
    exact⟨_,rfl,.inl rfl⟩
  |false=>
   simp only[List.lookup_cons,hx]
   by_cases hc:(k₀==NameKind.free&&sc.kind== .function&&sc.names.lookup n==some .cell)=true
   ·rw[if_pos hc] at h'
    simp only[List.lookup_cons,hx] at h'
    exact ih h'
   ·rw[if_neg hc] at h'
    simp only[List.lookup_cons,hx] at h'
    exact ih h'
structure uV(N:List Str)(sc scope:Scope)(own:List (Str×Nat)):Prop where
 kind:scope.kind= .function
 uniq:∀y∈scope.names,scope.names.lookup y.1=some y.2
 ix:∀p∈own,N[p.2]? =some p.1
 free:∀y∈scope.names,y.2= .free→sc.names.lookup y.1=some .cell∨sc.names.lookup y.1=some .free
 own:∀y∈scope.names,y.2= .local∨y.2= .cell→y.1∈own.map (·.1)∨y.1∉N
def wipe(σ:St):List Nat→St
 | []=>σ
 |v::vs=>(wipe σ vs).set v none
theorem H_(σ:St):∀vs:List Nat,(wipe σ vs).length=σ.length
 | []=>rfl
 |v::vs=>by unfold wipe;rw[List.length_set,H_ σ vs]
theorem JB{σ:St}{i:Nat}{x:V}:∀{vs:List Nat},(wipe σ vs)[i]? =some (some x)→σ[i]? =some (some x)∧i∉vs
 | [],h=>⟨h,by simp⟩
 |v::vs,h=>by
  unfold wipe at h
  by_cases hi:v=i
  ·subst hi
   by_cases hv:v<(wipe σ vs).length
   ·rw[List.getElem?_set_self hv] at h;cases h
   ·rw[List.getElem?_eq_none (by simpa using hv)] at h;cases h
  ·rw[List.getElem?_set_ne hi] at h
   obtain⟨h1,h2⟩:=JB h
   exact⟨h1,by simp only[List.mem_cons,not_or];exact⟨fun e=>hi e.symm,h2⟩⟩
abbrev Cx.blk(X:Cx)(s:Shared)(H:Hp)(scope:Scope)(cenv:Env)(fp:List Addr):Cx:={X with s_0:=s,vA:=H,env:=cenv,outer:=X.stack,ex:=fp,fn:=fun x=>scope.names.lookup x==some .cell,pn:=[],xe:=fun _ _=>False}
section
variable{X:Cx}{pins:List (Addr×Obj)}{σ:St}{H:Hp}{s:Shared}
theorem aes{scope:Scope}{own:List (Str×Nat)}{fp:List Addr}(I:Inv X pins σ H s)(ok:uV X.N X.env.scope scope own)(hN:X.N.Nodup)(hfp:∀b∈fp,jT X pins H b∧b<s.heap.objs.size):
 Inv (X.blk s H scope (compEnvC scope (cellsFrom (s.heap.objs.size+1) scope.names (eE X.env.cells scope.names [])) s.heap.objs.size X.env) fp) [] (wipe σ (own.map (·.2))) H {s with heap:=pushCells (s.heap.push {cls:=.type "dict",data:=.dict #[]}) scope.names}:=by
 have hfree:∀y∈scope.names,y.2= .free→∃c,X.env.cells.lookup y.1=some c:=fun y hy e=>by
  rcases ok.free y hy e with k|k
  ·exact I.ok.has _ (.inl k)
  ·exact I.ok.has _ (.inr k)
 generalize uW:compEnvC scope (cellsFrom (s.heap.objs.size+1) scope.names (eE X.env.cells scope.names [])) s.heap.objs.size X.env=cenv
 have kp:∀b o,s.heap.get? b=some o→(pushCells (s.heap.push {cls:=.type "dict",data:=.dict #[]}) scope.names).get? b=some o:=fun b o e=>pushCells_keeps _ _ _ _ (Heap.get?_push_of_some _ e)
 have hL:cenv.locals=s.heap.objs.size:=by rw[←uW];rfl
 have hcl:cenv.cells=cellsFrom (s.heap.objs.size+1) scope.names (eE X.env.cells scope.names []):=by rw[←uW];rfl
 have hsc:cenv.scope=ak4 scope X.env.scope:=by rw[←uW];rfl
 rw[←Heap.size_push s.heap {cls:=.type "dict",data:=.dict #[]}] at hcl
 have cm:∀{y c},(y,c)∈eE X.env.cells scope.names []→X.env.cells.lookup y=some c∧c<s.heap.objs.size:=fun {y c} hm=>by
  rcases yF hm with hm|⟨h1,rfl⟩
  ·cases hm
  ·obtain⟨c,hc⟩:=hfree _ h1 rfl
   rw[hc]
   obtain⟨w,z⟩:=I.cell _ _ hc
   exact⟨rfl,z.lt⟩
 have mem:∀{y c},cenv.cells.lookup y=some c→(X.env.cells.lookup y=some c∧c<s.heap.objs.size)∨(s.heap.objs.size+1≤c∧Z_ (pushCells (s.heap.push {cls:=.type "dict",data:=.dict #[]}) scope.names) c none):=fun {y c} e=>by
  rw[hcl] at e
  rcases ud (PySem.mem_of_lookup e) with hm|⟨_,h2,h3⟩
  ·exact .inl (cm hm)
  ·rw[Heap.size_push] at h2;exact .inr ⟨h2,h3⟩
 have look:∀{y},scope.names.lookup y=some .free→∃c,cenv.cells.lookup y=some c∧X.env.cells.lookup y=some c:=fun {y} hl=>by
  have hy:(y,NameKind.free)∈scope.names:=PySem.mem_of_lookup hl
  obtain⟨c',e'⟩:=mem_lookup (yU (names:=scope.names) (n:=(s.heap.push {cls:=.type "dict",data:=.dict #[]}).objs.size) (HX (cells:=X.env.cells) (acc:=[]) hy))
  rw[←hcl] at e'
  refine⟨c',e',?_⟩
  rw[hcl] at e'
  rcases ud (PySem.mem_of_lookup e') with hm|⟨h1,_,_⟩
  ·exact(cm hm).1
  ·have:=ok.uniq _ h1
   rw[hl] at this;cases this
 have okB:(X.blk s H scope cenv fp).Ok:=by
  refine⟨I.ok.mod,by show cenv.scope.kind=_;rw[hsc];exact ok.kind,by show cenv.globals=_;rw[←uW];exact I.ok.glob,by show cenv.builtins=_;rw[←uW];exact I.ok.blt,by show s.heap.objs.size≤cenv.locals;rw[hL];exact Nat.le_refl _,
   fun y z c e1 e2=>?_,fun y hy=>?_,fun y c z e=>?_,I.ok.hd,I.ok.frames,.inl rfl,fun b hb=>⟨?_,fun y c e z=>?_⟩,I.bs,Nat.le_trans I.ok.mL I.sz,fun b o e hb=>?_,fun b hb z=>?_,I.stack,I.Y5⟩
  ·have e1:cenv.cells.lookup y=some c:=e1
   have e2:cenv.cells.lookup z=some c:=e2
   rw[hcl] at e1 e2
   refine Jz (fun p hp=>?_) (fun y z c a b=>I.ok.inj y z c (cm a).1 (cm b).1) (PySem.mem_of_lookup e1) (PySem.mem_of_lookup e2)
   rw[Heap.size_push]
   exact Nat.lt_succ_of_lt (cm (y:=p.1) (c:=p.2) hp).2
  ·show ∃c,cenv.cells.lookup y=some c
   have key:∀k,cenv.kindOf y=some k→(k= .cell∨k= .free)→∃c,cenv.cells.lookup y=some c:=fun k hk hk'=>by
    unfold Env.kindOf at hk
    rw[hsc] at hk
    obtain⟨k',e,r⟩:=HY hk
    have:k'= .cell∨k'= .free:=by
     rcases r with rfl|⟨rfl,_⟩
     ·exact hk'
     ·exact .inr rfl
    rcases this with rfl|rfl
    ·obtain⟨c,hm⟩:=Jy (n:=(s.heap.push {cls:=.type "dict",data:=.dict #[]}).objs.size) (acc:=eE X.env.cells scope.names []) (PySem.mem_of_lookup e)
     obtain⟨c',e'⟩:=mem_lookup hm
     exact⟨c',by rw[hcl];exact e'⟩
    ·obtain⟨c,h1,_⟩:=look e
     exact⟨c,h1⟩
   rcases hy with hy|hy
   ·exact key _ hy (.inl rfl)
   ·exact key _ hy (.inr rfl)
  ·have z:(scope.names.lookup y==some NameKind.cell)=true:=z
   have z:scope.names.lookup y=some .cell:=by simpa using z
   have e:cenv.cells.lookup y=some c:=e
   rw[hcl] at e
   rcases ud (PySem.mem_of_lookup e) with hm|⟨_,h2,_⟩
   ·rcases yF hm with hm|⟨h1,_⟩
    ·cases hm
    ·have q:=ok.uniq _ h1
     rw[z] at q;cases q
   ·rw[Heap.size_push] at h2
    exact Nat.le_of_succ_le h2
  ·show b≠cenv.locals
   rw[hL];exact Nat.ne_of_lt (hfp b hb).2
  ·have e:cenv.cells.lookup y=some c:=e
   rcases mem e with⟨h1,_⟩|⟨h1,_⟩
   ·exact(hfp b hb).1.2.2.2.2.1 y c h1 z
   ·have h2:s.heap.objs.size+1≤b:=by rw[←z];exact h1
    exact absurd (Nat.lt_of_lt_of_le (hfp b hb).2 (Nat.le_of_succ_le h2)) (Nat.lt_irrefl _)
  ·rcases(hfp b hb).1.2.2.2.1 with z|z
   ·exact I.ok.u9 b o e z
   ·exact absurd (Nat.lt_of_lt_of_le (Heap.lt_size e) (Nat.le_trans I.ok.mL z)) (Nat.lt_irrefl _)
  ·rcases List.mem_cons.mp (I.Mp b z) with z|z
   ·exact(hfp b hb).1.2.1 z
   ·exact(hfp b hb).1.2.2.1 z
 refine⟨okB,rfl,I.bare,Un.kept kp,⟨fun _=>none,?_,fun i y av e1 e2 e3=>?_⟩,fun y c e=>?_,?_,fun y c e=>?_,fun p hp=>?_,I.hok.kept kp,by rw[H_];exact I.len⟩
 ·show Heap.Ns _ cenv.locals _
  rw[hL]
  exact Heap.Ns.keeps (Heap.Ns.new ..) fun b o e=>pushCells_keeps _ _ _ _ e
 ·obtain⟨e2,hne⟩:=JB e2
  have hfr:scope.names.lookup y=some .free∧(cenv.kindOf y=some .cell∨cenv.kindOf y=some .free):=by
   have key:∀k,cenv.scope.names.lookup y=some k→k= .local∨k= .cell∨k= .free→scope.names.lookup y=some .free∧(cenv.kindOf y=some .cell∨cenv.kindOf y=some .free):=fun k hk hk'=>by
    have hk0:=hk
    rw[hsc] at hk
    obtain⟨k',e,r⟩:=HY hk
    have no:¬(k'= .local∨k'= .cell):=fun hh=>by
     rcases ok.own _ (PySem.mem_of_lookup e) hh with e'|e'
     ·obtain⟨p,hp,hpy⟩:=List.mem_map.mp e'
      have e3:=ok.ix p hp
      have:p.1=y:=hpy
      rw[this] at e3
      exact hne (List.mem_map.mpr ⟨p,hp,Kh hN e3 e1⟩)
     ·exact e' (List.mem_of_getElem? e1)
    rcases r with rfl|⟨rfl,rfl⟩
    ·rcases hk' with rfl|rfl|rfl
     ·exact absurd (.inl rfl) no
     ·exact absurd (.inr rfl) no
     ·exact⟨e,.inr hk0⟩
    ·exact⟨e,.inl hk0⟩
   have e3:vB cenv.scope y:=e3
   rcases e3 with e3|e3|e3
   ·exact key _ e3 (.inl rfl)
   ·exact key _ e3 (.inr (.inl rfl))
   ·exact key _ e3 (.inr (.inr rfl))
  obtain⟨m,hn,hl⟩:=I.loc
  have ak5:vB X.env.scope y:=(ok.free _ (PySem.mem_of_lookup hfr.1) rfl).elim (fun k=>.inr (.inl k)) (fun k=>.inr (.inr k))
  obtain⟨w,r,q⟩:=hl i y av e1 e2 ak5
  refine⟨w,r,.inr ⟨hfr.2,?_⟩⟩
  obtain⟨c,h1,h2⟩:=look hfr.1
  rcases q with⟨k,_⟩|⟨_,c',e',z⟩
  ·have k:X.env.scope.names.lookup y=some .local:=k
   rcases ok.free _ (PySem.mem_of_lookup hfr.1) rfl with k'|k'<;>rw[show X.env.scope.names.lookup y=_ from k'] at k<;>cases k
  ·rw[h2] at e';cases e'
   exact⟨c,h1,z.keeps kp⟩
 ·have e:cenv.cells.lookup y=some c:=e
  rcases mem e with⟨h1,_⟩|⟨_,z⟩
  ·obtain⟨w,z⟩:=I.cell y c h1
   exact⟨w,z.keeps kp⟩
  ·exact⟨_,z⟩
 ·show H cenv.locals=none
  rw[hL];exact I.hok.fresh (Nat.le_refl _)
 ·have e:cenv.cells.lookup y=some c:=e
  rcases mem e with⟨h1,_⟩|⟨h1,_⟩
  ·exact I.jl y c h1
  ·exact I.hok.fresh (Nat.le_of_succ_le h1)
 ·exact absurd (show p∈([]:List (Addr×Obj))++[] from hp) (by simp)
theorem ajJ{E:Value→Shared→Prop}{D:Addr}{xs:List V}{y:V}{v:Value}{Q:Value→Shared→Prop}(I:Inv X pins σ H s)(hD:H D=some (.lst xs))(hz:xs.length<sizeLine)(r:RelV y v)
 (h:∀s',Inv X pins σ (upd H D (.lst (xs++[y]))) s'→Q .none s'):wpAny (model X.prog X.w) X.A (call (.builtin "list.append") [.ref D,v]) Q E s:=by
 obtain⟨hz',its,n,ri,e⟩:=I.hok D _ hD
 have hl:=ri.length
 refine append_at (hsz:=by rw[List.size_toArray];omega) e fun h' sb ho'=>?_
 refine h {s with heap:=h'} (I.write (t':=s.toks) (by rw[hD];trivial) (.inl rfl) (fun b u hb q=>(sb.2 b hb).trans q) ⟨_,ho'⟩ ⟨by rw[List.length_append];exact hz,its++[v],n+1,ri.append (.cons r .nil),?_⟩)
 rw[ho']
 simp
def vI(X:Cx)(ifs:List Expr)(t:TT):Prop:=
 ∀(pins:List (Addr×Obj)) (s:Shared) (σ:St) (H:Hp) (Q:Bool→Hp→Prop),Inv X pins σ H s→t σ H Q→
  wpAny (model X.prog X.w) X.A (forIn ifs true fun c r=>if r=true then do let ok←isTrue c X.env (eval c X.env);pure (ForInStep.yield ok) else pure (ForInStep.yield r)) (TP X pins σ Q) X.xe s
def fO:TT:=fun _ H Q=>Q true H
theorem gK:vI X [] fO:=fun _ _ _ H _ I h=>wpAny_tests_nil ⟨H,I,h⟩
theorem lO{c:Expr}{t:TT}(h:PT X c t):vI X [c] t:=fun pins s σ H Q I hw=>wpAny_tests_one (h pins s σ H Q I hw)
end
theorem sI{α:Type}{t:Sem α}{Q Q':α→Shared→Prop}{M:Model}{A:Around}{E:Value→Shared→Prop}{s:Shared}(h:wpAny M A t Q (fun _ _=>False) s)(hQ:∀a s,Q a s→Q' a s):wpAny M A t Q' E s:=wpAny_mono h hQ fun _ _ z=>False.elim z
theorem adQ{prog:Program}{w:World}{A:Around}{R:Result→Shared→Prop}{s:Shared}{elt target iter:Expr}{ifs:List Expr}{scope:Scope}{pos:Pos}{it acc:Value}{env:Env}(I:Nat→Shared→Prop)
 (turn:∀n s,I n s→wpAny (model prog w) A (pyNext it) (fun r s₁=>match r with
   |none=>R (.ok .next) s₁
   |some v=>wpAny (model prog w) A (letOwnedTupleGo target it v) (fun _ s₁'=>wpAny (model prog w) A (assign target env v) (fun _ s₂=>
    wpAny (model prog w) A (forIn ifs true fun c r=>if r=true then do let ok←isTrue c env (eval c env);pure (ForInStep.yield ok) else pure (ForInStep.yield r)) (fun ok s₃=>
     if ok=true then wpAny (model prog w) A (eval elt env) (fun x s₄=>
      wpAny (model prog w) A (call (.builtin "list.append") [acc,x]) (fun _ s₅=>∃m,m<n∧I m s₅) (notedBy (model prog w) A env fun e s'=>R (.error e) s') s₄) (notedBy (model prog w) A env fun e s'=>R (.error e) s') s₃
     else ∃m,m<n∧I m s₃) (notedBy (model prog w) A env fun e s'=>R (.error e) s') s₂) (notedBy (model prog w) A env fun e s'=>R (.error e) s') s₁') (notedBy (model prog w) A env fun e s'=>R (.error e) s') s₁) (notedBy (model prog w) A env fun e s'=>R (.error e) s') s)
 (n:Nat)(h:I n s):
 codeAny (model prog w) A (.compLoop (.ListComp elt [⟨target,iter,ifs,0⟩] scope pos) 0 it acc env) R s:=by
 refine codeAny_loop rfl I (fun n s hI=>?_) n h
 show wpAny _ A ((compTurn (.ListComp elt [⟨target,iter,ifs,0⟩] scope pos) 0 it acc env).onRaise (fun x=>do noteFrame x env;theTreesLotGoes x)) _ _ s
 refine wpAny_noted ?_
 rw[compTurn_list]
 refine wpAny_bind (wpAny_standAt (wpAny_bind (wpAny_mono (turn n s hI) (fun r s₁ h₁=>?_) fun _ _ h'=>h')))
 cases r with
 |none=>exact wpAny_pure h₁
 |some v=>
  refine wpAny_bind (wpAny_mono h₁ (fun _ s₁' h₁'=>?_) fun _ _ h'=>h')
  refine wpAny_bind (wpAny_mono h₁' (fun _ s₂ h₂=>wpAny_bind (wpAny_mono h₂ (fun ok s₃ h₃=>?_) fun _ _ h'=>h')) fun _ _ h'=>h')
  cases ok with
  |false=>exact wpAny_pure ⟨rfl,h₃⟩
  |true=>
   exact wpAny_bind (wpAny_bind (wpAny_mono h₃ (fun x s₄ h₄=>wpAny_bind (wpAny_mono h₄ (fun _ s₅ h₅=>wpAny_pure (wpAny_pure ⟨rfl,h₅⟩)) fun _ _ h'=>h')) fun _ _ h'=>h'))
section
variable{X:Cx}
def dw(wi:TI)(g:TG)(tt:TT)(te:TE)(vs:List Nat):TE:=fun σ H Q=>wi σ H fun J H1=>∀D,H1 D=none→∃W:Nat→Nat→Hp→Prop,(∃m,W 0 m (upd H1 D (.lst [])))∧∀i m H,W i m H→
 (J.stop i H∧Q (.ref D) H)∨(J.go i H∧∃Nx:Hp→Prop,(∀H',Nx H'→∃m',m'<m∧W (i+1) m' H')∧∀x H',J.fY i H x H'→g x (wipe σ vs) H' fun σ2 H2=>wipe σ2 vs=wipe σ vs∧tt σ2 H2 fun b H3=>
   if b=true then te σ2 H3 fun y H4=>∃acc,H4 D=some (.lst acc)∧acc.length<sizeLine∧Nx (upd H4 D (.lst (acc++[y]))) else Nx H3)
theorem Zc{pins:List (Addr×Obj)}{s:Shared}{σ:St}{H:Hp}{Q:VK}{elt tg iter:Expr}{ifs:List Expr}{scope:Scope}{own:List (Str×Nat)}{pos pos':Pos}{wi:TI}{g:TG}{tt:TT}{te:TE}{use:Option (Value→Sem Unit)}{Qf:Value→Shared→Prop}
 (hc:X.calm=true)(hN:X.N.Nodup)(I:Inv X pins σ H s)(hi:PI X tg iter wi)(ok:uV X.N X.env.scope scope own)
 (hg:∀(s:Shared) (H:Hp) (C:Addr) (cl:List (Str×Addr)) (fp:List Addr),PG (X.blk s H scope (compEnvC scope cl C X.env) fp) tg g)(ht:∀(s:Shared) (H:Hp) (C:Addr) (cl:List (Str×Addr)) (fp:List Addr),vI (X.blk s H scope (compEnvC scope cl C X.env) fp) ifs tt)
 (he:∀(s:Shared) (H:Hp) (C:Addr) (cl:List (Str×Addr)) (fp:List Addr),PE (X.blk s H scope (compEnvC scope cl C X.env) fp) elt te)(hs:∀x,foldedSetIterable iter X.env x=pure x)
 (h:dw wi g tt te (own.map (·.2)) σ H Q)
 (hRR:∀D C s' m H',Inv X pins σ H' s'→Q (.ref D) H'→s'.heap.Ns C m→jT X pins H' C→compPost (model X.prog X.w) X.A X.xe use Qf (.ref D) C (.ok .next) s'):
 wpAny (model X.prog X.w) X.A (comprehension (.ListComp elt [⟨tg,iter,ifs,0⟩] scope pos) scope X.env pos' (newList []) false (eval iter X.env) use) Qf X.xe s:=by
 have hfree:∀y∈scope.names,y.2= .free→∃c,X.env.cells.lookup y.1=some c:=fun y hy e=>by
  rcases ok.free y hy e with k|k
  ·exact I.ok.has _ (.inl k)
  ·exact I.ok.has _ (.inr k)
 refine wpAny_comprehension_free (use:=use) rfl hs (afd hfree) ok.kind (fun y hy e=>by rw[ok.uniq y hy,e])
  (aN (hi pins s σ H _ I h) fun xv s1 hx=>aN hx fun itv s2 h2=>?_)
 obtain⟨it,fp,tn,J,H2,e,I2,T,st2,f2,q⟩:=h2
 subst e
 refine wpAny_newObj_type (aer ?_) (by show 0≤sizeLine;decide)
 generalize hD:s2.heap.objs.size=D
 have hDn:H2 D=none:=I2.hok.fresh (Nat.le_of_eq hD)
 obtain⟨W,⟨m0,w0⟩,turn⟩:=q D hDn
 generalize hs3:({s2 with heap:=s2.heap.push {cls:=.type "list",data:=.seq ([]:List Value).toArray}}:Shared)=s3
 have I3:Inv X pins σ (upd H2 D (.lst [])) s3:=by
  rw[←hs3]
  refine I2.laid (t':=s2.toks) (fun b o e=>Heap.get?_push_of_some _ e) (Nat.le_of_eq hD) ⟨Nat.zero_le _,[],0,.nil,?_⟩
  rw[←hD]
  exact Heap.get?_push_size _ rfl
 have h3:s3.heap=s2.heap.push {cls:=.type "list",data:=.seq ([]:List Value).toArray}:=by rw[←hs3]
 have sz:∀b∈fp,b<s2.heap.objs.size:=fun b hb=>by
  obtain⟨o,e,_⟩:=T.obj _ _ st2 b hb
  exact Heap.lt_size e
 have f3:∀b∈fp,jT X pins (upd H2 D (.lst [])) b∧b<s3.heap.objs.size:=fun b hb=>by
  have hlt:=sz b hb
  refine⟨⟨?_,(f2 b hb).2⟩,by rw[h3,Heap.size_push];exact Nat.lt_succ_of_lt hlt⟩
  rw[aH (by rw[←hD];exact Nat.ne_of_lt hlt)]
  exact(f2 b hb).1
 have st3:tn 0 s3.heap:=T.keep _ _ _ st2 fun b _ o e=>by rw[h3];exact Heap.get?_push_of_some _ e
 have I4:=aes I3 ok hN f3
 have pg:=hg s3 (upd H2 D (.lst [])) s3.heap.objs.size (cellsFrom (s3.heap.objs.size+1) scope.names (eE X.env.cells scope.names [])) fp
 have pt:=ht s3 (upd H2 D (.lst [])) s3.heap.objs.size (cellsFrom (s3.heap.objs.size+1) scope.names (eE X.env.cells scope.names [])) fp
 have pe:=he s3 (upd H2 D (.lst [])) s3.heap.objs.size (cellsFrom (s3.heap.objs.size+1) scope.names (eE X.env.cells scope.names [])) fp
 show codeAny _ _ (.compStart (.ListComp elt [⟨tg,iter,ifs,0⟩] scope pos) 0 (.ref it) (.ref D) (compEnvC scope (cellsFrom (s3.heap.objs.size+1) scope.names (eE X.env.cells scope.names [])) s3.heap.objs.size X.env)) (compPost (model X.prog X.w) X.A X.xe use Qf (.ref D) s3.heap.objs.size) {s3 with heap:=pushCells (s3.heap.push {cls:=.type "dict",data:=.dict #[]}) scope.names}
 have nfp:∀b∈fp,(upd H2 D (.lst [])) b=none:=fun b hb=>(f3 b hb).1.1
 generalize hce:compEnvC scope (cellsFrom (s3.heap.objs.size+1) scope.names (eE X.env.cells scope.names [])) s3.heap.objs.size X.env=ce at I4 pg pt pe⊢
 have cL:ce.locals=s3.heap.objs.size:=by subst hce;rfl
 generalize hH3:upd H2 D (.lst [])=H3 at I3 I4 pg pt pe w0 nfp f3
 generalize Cu:({s3 with heap:=pushCells (s3.heap.push {cls:=.type "dict",data:=.dict #[]}) scope.names}:Shared)=s4 at I4⊢
 have st4:tn 0 s4.heap:=T.keep _ _ _ st3 fun b _ o e=>by rw[←Cu];exact pushCells_keeps _ _ _ _ (Heap.get?_push_of_some _ e)
 have stat:∀{σ':St} {H':Hp} {s':Shared},Inv (X.blk s3 H3 scope ce fp) [] σ' H' s'→(∀b∈fp,H' b=none)→∀b∈fp,jT (X.blk s3 H3 scope ce fp) [] H' b:=fun {σ' H' s'} I' hn b hb=>
  ⟨hn b hb,(I'.ok.B_ b hb).1,I'.ok.u_ b hb,.inl hb,fun x c e=>(I'.ok.B_ b hb).2 x c e,fun p hp=>absurd (show p∈([]:List (Addr×Obj))++[] from hp) (by simp)⟩
 have loop:codeAny (model X.prog X.w) X.A (.compLoop (.ListComp elt [⟨tg,iter,ifs,0⟩] scope pos) 0 (.ref it) (.ref D) ce) (compPost (model X.prog X.w) X.A X.xe use Qf (.ref D) s3.heap.objs.size) s4:=by
  refine adQ (fun n s'=>∃i H',Inv (X.blk s3 H3 scope ce fp) [] (wipe σ (own.map (·.2))) H' s'∧tn i s'.heap∧(∀b∈fp,H' b=none)∧W i n H') ?_ m0 ⟨0,H3,I4,st4,nfp,w0⟩
  rintro n s5 ⟨i,H5,I5,st5,n5,w5⟩
  rcases turn i n H5 w5 with⟨stop,qq⟩|⟨go,Nx,hNx,step⟩
  ·have td:=T.done (X.blk s3 H3 scope ce fp) rfl rfl rfl hc i [] s5 _ H5 (fun _ _=>False) I5 (stat I5 n5) st5 stop
   refine sI td fun r s6 ⟨hr,I6⟩=>?_
   subst hr
   have I7:Inv X pins σ H5 s6:=I3.call' (ch:=fp) I6.os I6.base I6.hok I6.bare fun b hb=>⟨(f3 b hb).1.2.2.2.1,(f3 b hb).1.2.1,(f3 b hb).1.2.2.2.2.1,(f3 b hb).1.2.2.2.2.2⟩
   have nC:H5 s3.heap.objs.size=none:=by
    have z:H5 ce.locals=none:=I6.free
    rw[cL] at z
    exact z
   obtain⟨m,hn,_⟩:=I6.loc
   have hn:s6.heap.Ns ce.locals m:=hn
   rw[cL] at hn
   exact hRR D s3.heap.objs.size s6 m H5 I7 qq hn (I3.rY (Nat.le_refl _) nC)
  ·have ti:=T.item (X.blk s3 H3 scope ce fp) rfl rfl rfl hc i [] s5 _ H5 (fun _ _=>False) I5 (stat I5 n5) st5 go
   refine sI ti fun r s6 ⟨u,hr,h6⟩=>?_
   subst hr
   refine sI h6 fun _ s7 ⟨x,H7,I7,r7,y7,Oi,n7⟩=>?_
   have I7':=I7.pinned (stat I7 n7) (T.obj _ _ Oi)
   refine sI (pg _ s7 _ H7 x u _ I7' r7 (step x H7 y7)) fun _ s8 ⟨σ8,H8,I8,hw8,q8⟩=>?_
   refine sI (pt _ s8 σ8 H8 _ I8 q8) fun b s9 ⟨H9,I9,q9⟩=>?_
   have fin:∀{s':Shared} {H':Hp},Inv (X.blk s3 H3 scope ce fp) ([]++uJ fp s7.heap) σ8 H' s'→Nx H'→∃m,m<n∧∃i H',Inv (X.blk s3 H3 scope ce fp) [] (wipe σ (own.map (·.2))) H' s'∧tn i s'.heap∧(∀b∈fp,H' b=none)∧W i m H':=fun {s' H'} I' nx=>by
    obtain⟨m',hm,w'⟩:=hNx H' nx
    have aaZ:∀b∈fp,∀o,s7.heap.get? b=some o→s'.heap.get? b=some o∧H' b=none:=fun b hb o e=>
     let z:=I'.pin (b,o) (List.mem_append_right _ (List.mem_append_right _ (Ja hb e)))
     ⟨z.1,z.2.1⟩
    have hl:(wipe σ (own.map (·.2))).length=σ8.length:=by rw[←hw8,H_]
    refine⟨m',hm,i+1,H',(I'.zu (pins:=[])).weak hl (fun j v e=>?_),T.keep _ _ _ Oi fun b hb o e=>(aaZ b hb o e).1,fun b hb=>?_,w'⟩
    ·rw[←hw8] at e
     exact(JB e).1
    ·obtain⟨o,e,_⟩:=T.obj _ _ Oi b hb
     exact(aaZ b hb o e).2
   cases b with
   |false=>
    simp only[Bool.false_eq_true,if_false] at q9⊢
    exact fin I9 q9
   |true=>
    simp only[if_true] at q9⊢
    refine sI (pe _ s9 σ8 H9 _ I9 q9) fun z s10 ⟨yv,H10,I10,r10,acc,NZ,ak6,nx⟩=>?_
    exact ajJ (X:=X.blk s3 H3 scope ce fp) I10 NZ ak6 r10 fun s11 I11=>fin I11 nx
 exact codeAny_compStart_list loop (T.self X.A 0 _ _ _ st4 loop)
theorem gn{elt tg iter:Expr}{ifs:List Expr}{scope:Scope}{own:List (Str×Nat)}{pos:Pos}{wi:TI}{g:TG}{tt:TT}{te:TE}(hc:X.calm=true)(hN:X.N.Nodup)(hi:PI X tg iter wi)(ok:uV X.N X.env.scope scope own)
 (hg:∀(s:Shared) (H:Hp) (C:Addr) (cl:List (Str×Addr)) (fp:List Addr),PG (X.blk s H scope (compEnvC scope cl C X.env) fp) tg g)(ht:∀(s:Shared) (H:Hp) (C:Addr) (cl:List (Str×Addr)) (fp:List Addr),vI (X.blk s H scope (compEnvC scope cl C X.env) fp) ifs tt)
 (he:∀(s:Shared) (H:Hp) (C:Addr) (cl:List (Str×Addr)) (fp:List Addr),PE (X.blk s H scope (compEnvC scope cl C X.env) fp) elt te)(hs:∀x,foldedSetIterable iter X.env x=pure x:=by intro _;rfl):
 PE X (.ListComp elt [⟨tg,iter,ifs,0⟩] scope pos) (dw wi g tt te (own.map (·.2))):=by
 intro pins s σ H Q I h
 rw[eval_ListComp]
 refine Zc hc hN I hi ok hg ht he hs h fun D C s' m H' I' q hn f=>⟨m,hn,fun h'' sb=>?_⟩
 obtain⟨f0,f1,f2,f3,f4,f5⟩:=f
 exact⟨.ref D,H',I'.turned (t':=s'.toks) (fun b o hb e=>(sb.2 b hb).trans e) f0 f1 f3 f4 f5,rfl,q⟩
theorem nj{i:Nat}{y:Str}{py:Pos}{elt tg iter:Expr}{ifs:List Expr}{scope:Scope}{own:List (Str×Nat)}{pos spos:Pos}{wi:TI}{g:TG}{tt:TT}{te:TE}(hc:X.calm=true)(hN:X.N.Nodup)(hy:X.N[i]? =some y)(hyl:X.env.scope.names.lookup y=some .local)
 (hsw:swapsWith (.ListComp elt [⟨tg,iter,ifs,0⟩] scope pos) (some (.Name y py)) spos.line X.env=pure true)(hi:PI X tg iter wi)(ok:uV X.N X.env.scope scope own)
 (hg:∀(s:Shared) (H:Hp) (C:Addr) (cl:List (Str×Addr)) (fp:List Addr),PG (X.blk s H scope (compEnvC scope cl C X.env) fp) tg g)(ht:∀(s:Shared) (H:Hp) (C:Addr) (cl:List (Str×Addr)) (fp:List Addr),vI (X.blk s H scope (compEnvC scope cl C X.env) fp) ifs tt)
 (he:∀(s:Shared) (H:Hp) (C:Addr) (cl:List (Str×Addr)) (fp:List Addr),PE (X.blk s H scope (compEnvC scope cl C X.env) fp) elt te)(hs:∀x,foldedSetIterable iter X.env x=pure x:=by intro _;rfl):
 PS X (.Assign [.Name y py] (.ListComp elt [⟨tg,iter,ifs,0⟩] scope pos) spos) (aY (dw wi g tt te (own.map (·.2))) (aJ i)):=by
 intro pins s σ H D I h
 rw[exec_Assign_Name_used _ _ _ _ hsw]
 refine wpAny_bind (wpAny_standAt (wpAny_bind ?_))
 show wpAny _ X.A (do let _←comprehension (.ListComp elt [⟨tg,iter,ifs,0⟩] scope pos) scope X.env (firstIterPos [⟨tg,iter,ifs,0⟩] pos) (newList []) false (eval iter X.env) (some (assign (.Name y py) X.env))) _ _ s
 have h:dw wi g tt te (own.map (·.2)) σ H (fun x H1=>aJ i x σ H1 D.nx):=h
 refine wpAny_bind (aN (Zc (Qf:=fun _ s'=>SP X pins D .next s') hc hN I hi ok hg ht he hs h fun L C s' m H' I' q hn f=>?_) fun _ s' hq=>wpAny_pure (wpAny_pure hq))
 show wpAny _ _ (assign (.Name y py) X.env (.ref L)) _ _ _
 refine wpAny_assign_Name (Wu (v:=V.ref L) I' hN hy (.inl hyl) rfl (fun s2 I2 ⟨a,sb,ha⟩=>?_) (.inr hyl))
 obtain⟨f0,f1,f2,f3,f4,f5⟩:=f
 have haC:C≠a:=by
  rcases ha with z|z
  ·rw[z];exact f1
  ·exact fun e=>f4 y a z e.symm
 refine⟨m,hn.sameBut sb haC,fun h3 sb3=>?_⟩
 exact⟨_,H',I2.turned (t':=s2.toks) (fun b o hb e=>(sb3.2 b hb).trans e) f0 f1 f3 f4 f5,q⟩
theorem nJ{elt:Expr}{gs:List Comprehension}{scope:Scope}{pos py:Pos}{y:Str}{l:Nat}{env:Env}(hk:env.scope.kind= .function)(hy:env.scope.names.lookup y=some .local)(hl:(py.line==pos.line)=true)
 (ha:(scope.names.any fun(n,k)=>n==y&&(k== .local||k== .cell))=false):swapsWith (.ListComp elt gs scope pos) (some (.Name y py)) l env=pure true:=by
 have ky:env.kindOf y=some .local:=hy
 have hb:env.blockKind= .function:=by unfold Env.blockKind;rw[hk];rfl
 unfold swapsWith
 simp only[hb,ky,ha,Expr.pos,hl]
 rfl
end
theorem ahk{lo:Int}{n:Nat}{g:TG}{tt:TT}{te:TE}{vs:List Nat}{σ:St}{H1:Hp}{D:Addr}{Qd:Hp→Prop}(Pv:Nat→Hp→Prop)(h0:Pv 0 (upd H1 D (.lst [])))
 (hs:∀i H,i<n→Pv i H→g (.int (lo+i)) (wipe σ vs) H fun σ2 H2=>wipe σ2 vs=wipe σ vs∧tt σ2 H2 fun b H3=>
   if b=true then te σ2 H3 fun y H4=>∃acc,H4 D=some (.lst acc)∧acc.length<sizeLine∧Pv (i+1) (upd H4 D (.lst (acc++[y]))) else Pv (i+1) H3)(hd:∀H,Pv n H→Qd H):
 ∃W:Nat→Nat→Hp→Prop,(∃m,W 0 m (upd H1 D (.lst [])))∧∀i m H,W i m H→
  ((jB lo n).stop i H∧Qd H)∨((jB lo n).go i H∧∃Nx:Hp→Prop,(∀H',Nx H'→∃m',m'<m∧W (i+1) m' H')∧∀x H',(jB lo n).fY i H x H'→g x (wipe σ vs) H' fun σ2 H2=>wipe σ2 vs=wipe σ vs∧tt σ2 H2 fun b H3=>
    if b=true then te σ2 H3 fun y H4=>∃acc,H4 D=some (.lst acc)∧acc.length<sizeLine∧Nx (upd H4 D (.lst (acc++[y]))) else Nx H3):=by
 refine⟨fun i m H=>m=n - i∧i≤n∧Pv i H,⟨n,by simp,Nat.zero_le _,h0⟩,?_⟩
 rintro i m H ⟨rfl,hi,p⟩
 by_cases hlt:i<n
 ·refine .inr ⟨hlt,Pv (i+1),fun H' p'=>⟨n - (i+1),by omega,rfl,hlt,p'⟩,fun x H' y=>?_⟩
  obtain⟨e,y⟩:=y
  subst e y
  exact hs i _ hlt p
 ·have e:i=n:=by omega
  subst e
  exact .inl ⟨Nat.le_refl _,hd H p⟩
def aa0(N:List Str)(sc scope:Scope)(own:List (Str×Nat)):Bool:=
 (match scope.kind with| .function=>true|_=>false)&&(scope.names.all fun y=>decide (scope.names.lookup y.1=some y.2))&&(own.all fun p=>decide (N[p.2]? =some p.1))&&
   (scope.names.all fun y=>match y.2 with
     | .free=>(match sc.names.lookup y.1 with|some .cell=>true|some .free=>true|_=>false)
     | .local=>decide (y.1∈own.map (·.1))||decide (y.1∉N)
     | .cell=>decide (y.1∈own.map (·.1))||decide (y.1∉N)
     |_=>true)
theorem dN{N:List Str}{sc scope:Scope}{own:List (Str×Nat)}(h:aa0 N sc scope own=true):uV N sc scope own:=by
 unfold aa0 at h
 simp only[Bool.and_eq_true,List.all_eq_true,decide_eq_true_eq] at h
 obtain⟨⟨⟨h1,h2⟩,h3⟩,h4⟩:=h
 refine⟨?_,h2,h3,fun y hy e=>?_,fun y hy e=>?_⟩
 ·split at h1
  ·assumption
  ·cases h1
 ·have q:=h4 y hy
  simp only[e] at q
  split at q<;>first|exact .inl (by assumption)|exact .inr (by assumption)|cases q
 ·have q:=h4 y hy
  rcases e with e|e<;>(simp only[e,Bool.or_eq_true,decide_eq_true_eq] at q;exact q)
end L2
namespace L2
open PySem PySem.Spec PyProof.Rows
end L2
namespace L2
open PySem PySem.Spec PyProof.Rows
section
variable{κ:Type}[DecidableEq κ]
def aQ(kvs:List (κ×V))(k:κ):Option V:=(kvs.find? fun kv=>decide (kv.1=k)).map (·.2)
def putK(kvs:List (κ×V))(k:κ)(v:V):List (κ×V):=
 if(kvs.any fun kv=>decide (kv.1=k))=true then kvs.map (fun kv=>if kv.1=k then(kv.1,v) else kv) else kvs++[(k,v)]
theorem iK{p:κ×V}{r:List (κ×V)}{k:κ}(e:p.1=k):aQ (p::r) k=some p.2:=by simp[aQ,List.find?_cons,e]
theorem jj{p:κ×V}{r:List (κ×V)}{k:κ}(e:¬p.1=k):aQ (p::r) k=aQ r k:=by simp[aQ,List.find?_cons,e]
theorem nq(k:κ):∀kvs:List (κ×V),(kvs.any fun kv=>decide (kv.1=k))=(aQ kvs k).isSome
 | []=>rfl
 |p::r=>by
  rw[List.any_cons]
  by_cases e:p.1=k
  ·simp only[iK e,decide_eq_true e,Bool.true_or,Option.isSome_some]
  ·rw[jj e,decide_eq_false e,Bool.false_or];exact nq k r
theorem X5(k j:κ)(y:V):∀kvs:List (κ×V),aQ (kvs.map fun kv=>if kv.1=k then(kv.1,y) else kv) j=(aQ kvs j).map fun x=>if j=k then y else x
 | []=>rfl
 |p::r=>by
  have ih:=X5 k j y r
  rw[List.map_cons]
  by_cases h:p.1=k
  ·rw[if_pos h]
   by_cases e:p.1=j
   ·rw[iK (p:=(p.1,y)) e,iK e,Option.map_some,if_pos (e.symm.trans h)]
   ·rw[jj (p:=(p.1,y)) e,jj e,ih]
  ·rw[if_neg h]
   by_cases e:p.1=j
   ·rw[iK (p:=p) e,iK e,Option.map_some,if_neg (fun z=>h (e.trans z))]
   ·rw[jj (p:=p) e,jj e,ih]
theorem WM(k j:κ)(y:V):∀kvs:List (κ×V),aQ kvs k=none→aQ (kvs++[(k,y)]) j=if j=k then some y else aQ kvs j
 | [],_=>by
   by_cases e:k=j
   ·rw[if_pos e.symm];exact iK (p:=(k,y)) e
   ·rw[if_neg (fun z=>e z.symm)];exact jj (p:=(k,y)) e
 |p::r,hn=>by
  rw[List.cons_append]
  have hk:¬p.1=k:=fun z=>by rw[iK z] at hn;cases hn
  rw[jj hk] at hn
  have ih:=WM k j y r hn
  by_cases e:p.1=j
  ·rw[iK e,iK e,if_neg (fun z=>hk (e.trans z))]
  ·rw[jj e,jj e,ih]
theorem nu(kvs:List (κ×V))(k j:κ)(y:V):aQ (putK kvs k y) j=if j=k then some y else aQ kvs j:=by
 unfold putK
 by_cases a:(kvs.any fun kv=>decide (kv.1=k))=true
 ·rw[if_pos a,X5]
  rw[nq] at a
  by_cases e:j=k
  ·obtain⟨x,hx⟩:=Option.isSome_iff_exists.mp a
   rw[if_pos e,e,hx,Option.map_some,if_pos rfl]
  ·rw[if_neg e]
   cases aQ kvs j with
   |none=>rfl
   |some x=>rw[Option.map_some,if_neg e]
 ·rw[if_neg a]
  refine WM k j y kvs ?_
  rw[nq] at a
  cases q:aQ kvs k with
  |none=>rfl
  |some x=>rw[q] at a;exact(a rfl).elim
theorem tO(kvs:List (κ×V))(k:κ)(v:V):(putK kvs k v).length≤kvs.length+1:=by
 unfold putK
 split
 ·rw[List.length_map];omega
 ·rw[List.length_append,List.length_cons,List.length_nil];omega
theorem Kr{kvs:List (κ×V)}{k:κ}(v:V)(h:aQ kvs k=none):putK kvs k v=kvs++[(k,v)]:=by
 unfold putK
 rw[nq,h]
 exact if_neg (by decide)
theorem gq.uf{o:Option V}{u:Option Value}(r:gq o u):o.isSome=u.isSome:=by
 cases o with
 |none=>cases u with
  |none=>rfl
  |some _=>exact(show False from r).elim
 |some _=>cases u with
  |none=>exact(show False from r).elim
  |some _=>rfl
theorem KV.val{kvs:List (κ×V)}{vs:List (κ×Value)}(r:KV kvs vs)(k:κ):gq (aQ kvs k) (valueAt vs k):=by
 unfold KV at r
 induction r with
 |nil=>exact True.intro
 | @cons p q ps qs h t ih=>
   obtain⟨h1,h2⟩:=h
   by_cases e:p.1=k
   ·have e':q.1=k:=h1.symm.trans e
    have b:valueAt (q::qs) k=some q.2:=by simp[valueAt,List.find?_cons,e']
    rw[iK e,b];exact h2
   ·have e':¬q.1=k:=fun z=>e (h1.trans z)
    have b:valueAt (q::qs) k=valueAt qs k:=by simp[valueAt,List.find?_cons,e']
    rw[jj e,b];exact ih
theorem KV.any{kvs:List (κ×V)}{vs:List (κ×Value)}(r:KV kvs vs)(k:κ):(kvs.any fun kv=>decide (kv.1=k))=vs.any fun kv=>decide (kv.1=k):=by
 unfold KV at r
 induction r with
 |nil=>rfl
 |cons h t ih=>rw[List.any_cons,List.any_cons,ih,h.1]
theorem KV.repl{kvs:List (κ×V)}{vs:List (κ×Value)}(r:KV kvs vs)(k:κ){y:V}{u:Value}(ry:RelV y u):
 KV (kvs.map fun kv=>if kv.1=k then(kv.1,y) else kv) (vs.map fun kv=>if kv.1=k then(kv.1,u) else kv):=by
 unfold KV at r⊢
 induction r with
 |nil=>exact .nil
 | @cons p q ps qs h t ih=>
   rw[List.map_cons,List.map_cons]
   refine .cons ?_ ih
   obtain⟨h1,h2⟩:=h
   by_cases e:p.1=k
   ·rw[if_pos e,if_pos (h1.symm.trans e)];exact⟨h1,ry⟩
   ·rw[if_neg e,if_neg (fun z=>e (h1.trans z))];exact⟨h1,h2⟩
theorem KV.put{kvs:List (κ×V)}{vs:List (κ×Value)}(r:KV kvs vs)(k:κ){y:V}{u:Value}(ry:RelV y u):KV (putK kvs k y) (stored vs k u):=by
 unfold putK stored
 rw[r.any k]
 by_cases e:(vs.any fun kv=>decide (kv.1=k))=true
 ·rw[if_pos e,if_pos e];exact r.repl k ry
 ·rw[if_neg e,if_neg e];exact Paired.snoc r ⟨rfl,ry⟩
theorem KV.length{kvs:List (κ×V)}{vs:List (κ×Value)}(r:KV kvs vs):kvs.length=vs.length:=Paired.length r
end
theorem rH{P:Program}{w:World}{k:Key}{u:Value}(r:RelV (kV k) u):(fV P w).is k u=true:=by
 cases k with
 |inl i=>obtain⟨t,e⟩:=(show ∃t,u=Value.int i t from r);subst e;exact aem P w i t
 |inr x=>obtain⟨t,e⟩:=(show ∃t,u=Value.str x t from r);subst e;exact aen P w x t
theorem WQ{P:Program}{w:World}:∀{ks:List Key} {us:List Value},Vals (ks.map kV) us→ItemsAre (fV P w) ks us
 | [],_,r=>by rw[List.map_nil] at r;cases r;exact .nil
 |k::ks,_,r=>by
  rw[List.map_cons] at r
  cases r with
  |cons h t=>exact .cons (rH h) (WQ t)
abbrev KT(H:Hp):List (List Key×V)→List (List Key×Addr×Value)→Prop:=Paired fun p q=>p.1=q.1∧H q.2.1=some (.tup (p.1.map kV))∧RelV p.2 q.2.2
theorem KT.val{H:Hp}{kvs:List (List Key×V)}{xs:List (List Key×Addr×Value)}(r:KT H kvs xs)(k:List Key):gq (aQ kvs k) ((atKey xs k).map (·.2)):=by
 induction r with
 |nil=>exact True.intro
 | @cons p q ps qs h t ih=>
   obtain⟨h1,_,h2⟩:=h
   by_cases e:p.1=k
   ·have e':q.1=k:=h1.symm.trans e
    have b:atKey (q::qs) k=some q.2:=by simp[atKey,List.find?_cons,e']
    rw[iK e,b];exact h2
   ·have e':¬q.1=k:=fun z=>e (h1.trans z)
    have b:atKey (q::qs) k=atKey qs k:=by simp[atKey,List.find?_cons,e']
    rw[jj e,b];exact ih
theorem KT.repl{H:Hp}{kvs:List (List Key×V)}{xs:List (List Key×Addr×Value)}(r:KT H kvs xs)(k:List Key){y:V}{u:Value}(ry:RelV y u):
 KT H (kvs.map fun kv=>if kv.1=k then(kv.1,y) else kv) (xs.map (putAt k u)):=by
 induction r with
 |nil=>exact .nil
 | @cons p q ps qs h t ih=>
   rw[List.map_cons,List.map_cons]
   refine .cons ?_ ih
   obtain⟨h1,h2,h3⟩:=h
   unfold putAt
   by_cases e:p.1=k
   ·rw[if_pos e,if_pos (h1.symm.trans e)];exact⟨h1,h2,ry⟩
   ·rw[if_neg e,if_neg (fun z=>e (h1.trans z))];exact⟨h1,h2,h3⟩
theorem KT.put{H:Hp}{kvs:List (List Key×V)}{xs:List (List Key×Addr×Value)}(r:KT H kvs xs)(k:List Key){b:Addr}{y:V}{u:Value}(hb:H b=some (.tup (k.map kV)))(ry:RelV y u):
 KT H (putK kvs k y) (storedH xs k b u):=by
 have e:(kvs.any fun kv=>decide (kv.1=k))=(atKey xs k).isSome:=by
  rw[nq,(r.val k).uf,Option.isSome_map]
 unfold putK storedH
 rw[e]
 by_cases q:(atKey xs k).isSome=true
 ·rw[if_pos q,if_pos q];exact r.repl k ry
 ·rw[if_neg q,if_neg q];exact Paired.snoc r ⟨rfl,hb,ry⟩
theorem KT.keeps{H H':Hp}{kvs:List (List Key×V)}{xs:List (List Key×Addr×Value)}(r:KT H kvs xs)(ht:∀b ys,H b=some (.tup ys)→H' b=some (.tup ys)):KT H' kvs xs:=
 Paired.dY r fun _ _ z=>⟨z.1,ht _ _ z.2.1,z.2.2⟩
section
variable{P:Program}{w:World}{H:Hp}{h:Heap}{a:Addr}
theorem aau{u:HO}(ok:cI P w H h)(e:Rd H a u):dI P w H h a u:=e.ok ok
theorem rJ{kvs:List (Key×V)}(ok:cI P w H h)(e:Rd H a (.dK kvs)):kvs.length≤sizeLine∧(a==sysModules)=false∧∃vs,KV kvs vs∧h.DictOf (fV P w) a vs:=
 show dI P w H h a (.dK kvs) from aau ok e
theorem uX{kvs:List (Key×V)}(ok:cI P w H h)(e:H a=some (.dK kvs)):kvs.length≤sizeLine∧(a==sysModules)=false∧∃vs,KV kvs vs∧h.DictOf (fV P w) a vs:=rJ ok (.inl e)
theorem uN{ks:List Key}(ok:cI P w H h)(e:H a=some (.tup (ks.map kV))):(tupleKind (fV P w)).is h ks a:=by
 obtain⟨_,its,r,o,h1,h2,n,h3⟩:=(show dI P w H h a (.tup (ks.map kV)) from ok a _ e)
 exact⟨o,its.toArray,n,h1,h2,h3,by simpa using WQ r⟩
theorem uY{kvs:List (List Key×V)}(ok:cI P w H h)(e:Rd H a (.dT kvs)):kvs.length≤sizeLine∧(a==sysModules)=false∧
 ∃xs,KT H kvs xs∧h.DictOfH (tupleKind (fV P w)) a xs:=by
 obtain⟨z,y,xs,r,o,es,ep,h1,h2,h3,h4,h5⟩:=(show dI P w H h a (.dT kvs) from aau ok e)
 refine⟨z,y,xs,r,o,es,ep,h1,h2,h3,h4,fun x hx=>?_,h5⟩
 have all:∀{l:List (List Key×V)} {m:List (List Key×Addr×Value)},KT H l m→∀x∈m,(tupleKind (fV P w)).is h x.1 x.2.1:=by
  intro l m q
  induction q with
  |nil=>intro x hx;exact nomatch hx
  | @cons p q ps qs hq t ih=>
    intro x hx
    rcases List.mem_cons.mp hx with e|hx
    ·subst e
     exact uN ok (by rw[←hq.1];exact hq.2.1)
    ·exact ih x hx
 exact all r x hx
theorem akz{kvs:List (List Key×V)}(ok:cI P w H h)(e:H a=some (.dT kvs)):kvs.length≤sizeLine∧(a==sysModules)=false∧
 ∃xs,KT H kvs xs∧h.DictOfH (tupleKind (fV P w)) a xs:=uY ok (.inl e)
end
def dG(H:Hp)(a:Addr)(y:V)(r:Option V):Prop:=
 (∃kvs k,Rd H a (.dK kvs)∧y=kV k∧r=aQ kvs k)∨∃kvs k b,Rd H a (.dT kvs)∧y= .ref b∧H b=some (.tup (k.map kV))∧r=aQ kvs k
def jx(H:Hp)(a:Addr)(y v:V)(H':Hp):Prop:=
 (∃kvs k,H a=some (.dK kvs)∧y=kV k∧kvs.length<sizeLine∧H'=upd H a (.dK (putK kvs k v)))∨
 ∃kvs k b,H a=some (.dT kvs)∧y= .ref b∧H b=some (.tup (k.map kV))∧kvs.length<sizeLine∧H'=upd H a (.dT (putK kvs k v))
theorem dG.k{H:Hp}{a:Addr}{kvs:List (Key×V)}{k:Key}(e:H a=some (.dK kvs)):dG H a (kV k) (aQ kvs k):=.inl ⟨kvs,k,.inl e,rfl,rfl⟩
theorem jx.k{H:Hp}{a:Addr}{kvs:List (Key×V)}{k:Key}{v:V}(e:H a=some (.dK kvs))(hl:kvs.length<sizeLine):jx H a (kV k) v (upd H a (.dK (putK kvs k v))):=.inl ⟨kvs,k,e,rfl,hl,rfl⟩
section
variable{X:Cx}{pins:List (Addr×Obj)}{σ:St}{H:Hp}{s:Shared}{a:Addr}{y v:V}{u r:Value}{o:Option V}{A:Around}{E:Value→Shared→Prop}
theorem Inv.big(I:Inv X pins σ H s):sysModules<s.heap.objs.size:=by
 have h:mainGlobals<s.heap.objs.size:=(I.mod.glob.keeps I.bk).lt
 exact Nat.lt_trans (by decide) h
theorem agk{Q:Value→Shared→Prop}(hu:A.units+1<cLine)(I:Inv X pins σ H s)(g:dG H a y (some v))(ry:RelV y u)(h:∀w' s',Inv X pins σ H s'→RelV v w'→Q w' s'):
 wpAny (model X.prog X.w) A (getItem (.ref a) u) Q E s:=by
 rcases g with⟨kvs,k,e,ey,l⟩|⟨kvs,k,b,e,ey,eb,l⟩
 ·subst ey
  obtain⟨z,hd,vs,rel,dd⟩:=rJ I.hok e
  obtain⟨w',hw,jV⟩:=gq.some_of (v:=v) (o:=valueAt vs k) (by rw[l];exact rel.val k)
  exact wpAny_getItem_of (rH ry) dd.mapOf hw (h w' _ (I.tok _) jV)
 ·subst ey
  cases(show u=Value.ref b from ry)
  obtain⟨z,hd,xs,rel,dd⟩:=uY I.hok e
  obtain⟨w',hw,jV⟩:=gq.some_of (v:=v) (o:=(atKey xs k).map (·.2)) (by rw[l];exact rel.val k)
  obtain⟨p,hp,hp2⟩:=Option.map_eq_some_iff.mp hw
  refine wpAny_getItem_heap (tupleKind_room_in1 hu) (uN I.hok eb) dd hp ?_
  rw[hp2]
  exact h w' _ (I.tok _) jV
theorem ak7{Q:Value→Shared→Prop}(hu:A.units+1<cLine)(I:Inv X pins σ H s)(g:dG H a y o)(ry:RelV y u)(h:∀s',Inv X pins σ H s'→Q (.bool o.isSome) s'):
 wpAny (model X.prog X.w) A (compareOp .In u (.ref a)) Q E s:=by
 rcases g with⟨kvs,k,e,ey,l⟩|⟨kvs,k,b,e,ey,eb,l⟩
 ·subst ey
  obtain⟨z,hd,vs,rel,dd⟩:=rJ I.hok e
  refine wpAny_in_of (rH ry) hd dd.mapOf ?_
  rw[←(rel.val k).uf,←l]
  exact h _ (I.tok _)
 ·subst ey
  cases(show u=Value.ref b from ry)
  obtain⟨z,hd,xs,rel,dd⟩:=uY I.hok e
  refine wpAny_in_heap (tupleKind_room_in1 hu) (uN I.hok eb) hd dd ?_
  have q:=(rel.val k).uf
  rw[Option.isSome_map] at q
  rw[←q,←l]
  exact h _ (I.tok _)
theorem ait{Q:Value→Shared→Prop}(hu:A.units+1<cLine)(I:Inv X pins σ H s)(g:dG H a y o)(ry:RelV y u)(h:∀s',Inv X pins σ H s'→Q (.bool (!o.isSome)) s'):
 wpAny (model X.prog X.w) A (compareOp .NotIn u (.ref a)) Q E s:=by
 rcases g with⟨kvs,k,e,ey,l⟩|⟨kvs,k,b,e,ey,eb,l⟩
 ·subst ey
  obtain⟨z,hd,vs,rel,dd⟩:=rJ I.hok e
  refine wpAny_notIn_of (rH ry) hd dd.mapOf ?_
  rw[←(rel.val k).uf,←l]
  exact h _ (I.tok _)
 ·subst ey
  cases(show u=Value.ref b from ry)
  obtain⟨z,hd,xs,rel,dd⟩:=uY I.hok e
  refine wpAny_notIn_heap (tupleKind_room_in1 hu) (uN I.hok eb) hd dd ?_
  have q:=(rel.val k).uf
  rw[Option.isSome_map] at q
  rw[←q,←l]
  exact h _ (I.tok _)
theorem zR{h':Heap}{t':Nat}{ob:HO}(I:Inv X pins σ H s)(mu:vp (H a))(hs:Heap.SameBut a s.heap h')(he:∃q,h'.get? a=some q)(new:dI X.prog X.w (upd H a ob) h' a ob):
 Inv X pins σ (upd H a ob) {s with heap:=h',toks:=t'}:=
 I.write (x:=a) (e:=a) mu (.inl rfl) (fun b q hb z=>(hs.2 b hb).trans z) he new
theorem Ms{P:Program}{w:World}{H':Hp}{h':Heap}{kvs:List (Key×V)}{vs:List (Key×Value)}(z:kvs.length≤sizeLine)(hd:(a==sysModules)=false)(rel:KV kvs vs)(dd:h'.DictOf (fV P w) a vs):
 dI P w H' h' a (.dK kvs):=⟨z,hd,vs,rel,dd⟩
theorem agl{H':Hp}{Q:Unit→Shared→Prop}(hu:A.units+1<cLine)(I:Inv X pins σ H s)(g:jx H a y v H')(ry:RelV y u)(rv:RelV v r)(h:∀s',Inv X pins σ H' s'→Q () s'):
 wpAny (model X.prog X.w) A (setItem (.ref a) u r) Q E s:=by
 rcases g with⟨kvs,k,e,ey,l,eH⟩|⟨kvs,k,b,e,ey,eb,l,eH⟩
 ·subst ey eH
  obtain⟨z,hd,vs,rel,dd⟩:=uX I.hok e
  have hz:vs.length≤sizeLine:=by rw[←rel.length];exact z
  have hl:(putK kvs k v).length≤sizeLine:=by have:=tO kvs k v;omega
  refine wpAny_setItem_pairs (hsz:=hz) (rH ry) dd fun h' pY hs=>h _ ?_
  have he:∃q,h'.get? a=some q:=let ⟨q,_,_,hq,_⟩:=pY;⟨q,hq⟩
  exact zR I (by rw[e];exact True.intro) hs he (Ms hl hd (rel.put k rv) pY)
 ·subst ey eH
  cases(show u=Value.ref b from ry)
  obtain⟨z,hd,xs,rel,dd⟩:=akz I.hok e
  have hz:xs.length≤sizeLine:=by rw[←Paired.length rel];exact z
  have hl:(putK kvs k v).length≤sizeLine:=by have:=tO kvs k v;omega
  refine wpAny_setItem_heap (hsz:=hz) (tupleKind_room_in1 hu) (uN I.hok eb) dd fun h' pY hs=>h _ ?_
  obtain⟨q,es,ep,hq,h2,h3,h4,_,h5⟩:=pY
  refine zR I (by rw[e];exact True.intro) hs ⟨q,hq⟩ ⟨hl,hd,_,(rel.put k eb rv).keeps fun c ys ec=>?_,q,es,ep,hq,h2,h3,h4,h5⟩
  rw[aH (akt ec e (fun z=>nomatch z))]
  exact ec
end
section
variable{X:Cx}{pins:List (Addr×Obj)}{σ:St}{H:Hp}{s:Shared}{a:Addr}{kvs:List (Key×V)}{k:Key}{u:Value}{A:Around}{E:Value→Shared→Prop}
theorem akA{Q:Value→Shared→Prop}(I:Inv X pins σ H s)(e:Rd H a (.dK kvs))(h:∀t s',Inv X pins σ H s'→Q (.int kvs.length t) s'):wpAny (model X.prog X.w) A (call (.builtin "len") [.ref a]) Q E s:=by
 obtain⟨z,hd,vs,rel,dd⟩:=rJ I.hok e
 refine call_len_dict hd dd (by rw[←rel.length];rw[sizeLine_eq] at z;omega) ?_
 rw[←rel.length]
 exact h _ _ (I.tok _)
end
def aa1(i:Expr):Prop:=∀ov iv,subscripted i false ov iv=operate [ov,iv] (getItem ov iv)
theorem aiu{prog:Program}{w:World}{A:Around}{E:Value→Shared→Prop}{s:Shared}{env:Env}{value slice:Expr}{pos:Pos}{T id:String}{Q:Value→Shared→Prop}
 (hl:typeLookup (.type T) "__getitem__"=pure (some (.builtin id)))(hs:aa1 slice)
 (h:wpAny (model prog w) A (eval value env) (fun o s₁=>wpAny (model prog w) A (eval slice env) (fun i s₂=>s₂.TypeIs o T∧wpAny (model prog w) A (getItem o i) Q E s₂) E s₁) E s):
 wpAny (model prog w) A (eval (.Subscript value slice pos) env) Q E s:=by
 refine Subscript_ (wpAny_mono h (fun o s₁ h₁=>wpAny_mono h₁ (fun i s₂ h₂=>?_) fun _ _ x=>x) fun _ _ x=>x)
 obtain⟨hT,h₂⟩:=h₂
 unfold subscriptTail
 refine wpAny_bind ?_
 rw[getitemInPython_of_ne hT.not_modules]
 refine wpAny_bind (wpAny_specialOf hT hl ?_)
 have fin:wpAny (model prog w) A (subscripted slice false o i) (fun r s₃=>wpAny (model prog w) A (letTemporaryGo value o r >>= fun _=>pure r) Q E s₃) E s₂:=by
  rw[hs o i]
  exact wpAny_operating (wpAny_mono h₂ (fun r s₃ h₃=>wpAny_bind (wpAny_letTemporaryGo (wpAny_pure h₃))) fun _ _ x=>x)
 first
  |exact wpAny_pure (wpAny_bind fin)
  |exact wpAny_bind (wpAny_pure (wpAny_bind fin))
  |exact wpAny_bind fin
theorem aeu{X:Cx}{pins:List (Addr×Obj)}{σ:St}{H:Hp}{s:Shared}{a:Addr}{y:V}{o:Option V}(I:Inv X pins σ H s)(g:dG H a y o):s.TypeIs (.ref a) "dict":=by
 rcases g with⟨kvs,k,e,_,_⟩|⟨kvs,k,b,e,_,_,_⟩
 ·obtain⟨_,_,vs,_,dd⟩:=rJ I.hok e
  exact dd.typeIs
 ·obtain⟨_,_,xs,_,dd⟩:=uY I.hok e
  exact dd.typeIs
def kW(td ty:TE):TE:=fun σ H Q=>td σ H fun x H1=>ty σ H1 fun y H2=>∃a v,x= .ref a∧dG H2 a y (some v)∧Q v H2
def vg(ty td:TE):TE:=fun σ H Q=>ty σ H fun y H1=>td σ H1 fun x H2=>∃a o,x= .ref a∧dG H2 a y o∧Q (.bl o.isSome) H2
def nM(ty td:TE):TE:=fun σ H Q=>ty σ H fun y H1=>td σ H1 fun x H2=>∃a o,x= .ref a∧dG H2 a y o∧Q (.bl (!o.isSome)) H2
def jo(td ty tv:TE):TS:=fun D σ H=>tv σ H fun v H1=>td σ H1 fun x H2=>ty σ H2 fun y H3=>∃a H4,x= .ref a∧jx H3 a y v H4∧D.nx σ H4
section
variable{X:Cx}{o i e value:Expr}{pos pos' tpos:Pos}{td ty tv:TE}
theorem o8(hu:X.A.units+1<cLine)(ho:PE X o td)(hi:PE X i ty)(hs:aa1 i):PE X (.Subscript o i pos) (kW td ty):=by
 intro pins s σ H Q I h
 refine aiu PySem.F.slot_dict_getitem.lookup hs (aN (ho pins s σ H _ I h) fun u s1 ⟨x,H1,I1,rx,q1⟩=>aN (hi pins s1 σ H1 _ I1 q1) fun iv s2 ⟨y,H2,I2,ry,a,v,ex,g,q2⟩=>?_)
 subst ex
 obtain rfl:u=Value.ref a:=rx
 exact⟨aeu I2 g,agk hu I2 g ry fun w' s3 I3 jV=>⟨v,H2,I3,jV,q2⟩⟩
theorem Mt(hu:X.A.units+1<cLine)(hi:PE X i ty)(ho:PE X o td):PC X .In i o (vg ty td):=by
 intro pins s σ H Q I h
 refine aN (hi pins s σ H _ I h) fun iv s1 ⟨y,H1,I1,ry,q1⟩=>aN (ho pins s1 σ H1 _ I1 q1) fun u s2 ⟨x,H2,I2,rx,a,ov,ex,g,q2⟩=>?_
 subst ex
 obtain rfl:u=Value.ref a:=rx
 exact ak7 hu I2 g ry fun s3 I3=>⟨.bl ov.isSome,H2,I3,rfl,q2⟩
theorem qJ(hu:X.A.units+1<cLine)(hi:PE X i ty)(ho:PE X o td):PC X .NotIn i o (nM ty td):=by
 intro pins s σ H Q I h
 refine aN (hi pins s σ H _ I h) fun iv s1 ⟨y,H1,I1,ry,q1⟩=>aN (ho pins s1 σ H1 _ I1 q1) fun u s2 ⟨x,H2,I2,rx,a,ov,ex,g,q2⟩=>?_
 subst ex
 obtain rfl:u=Value.ref a:=rx
 exact ait hu I2 g ry fun s3 I3=>⟨.bl (!ov.isSome),H2,I3,rfl,q2⟩
theorem lQ(hu:X.A.units+1<cLine)(ho:PE X o td)(hi:PE X i ty)(hv:PE X value tv)(hs:swapsWith value (some (.Subscript o i pos')) pos.line X.env=pure false):
 PS X (.Assign [.Subscript o i pos'] value pos) (jo td ty tv):=by
 intro pins s σ H D I h
 refine wpAny_Assign_Subscript (aN (hv pins s σ H _ I h) fun r s1 ⟨v,H1,I1,rv,q1⟩=>aN (ho pins s1 σ H1 _ I1 q1) fun u s2 ⟨x,H2,I2,rx,q2⟩=>aN (hi pins s2 σ H2 _ I2 q2) fun iv s3 ⟨y,H3,I3,ry,a,H4,ex,g,q3⟩=>?_) hs
 subst ex
 obtain rfl:u=Value.ref a:=rx
 exact agl hu I3 g ry rv fun s4 I4=>⟨σ,H4,I4,q3⟩
end
theorem X6{P:Program}{w:World}{H:Hp}(h:Heap)(hb:sysModules<h.objs.size):dI P w H (h.push {cls:=.type "dict",data:=.dict #[]}) h.objs.size (.dK []):=
 ⟨Nat.zero_le _,beq_eq_false_iff_ne.mpr (Ne.symm (Nat.ne_of_lt hb)),[],.nil,Heap.DictOf.new h⟩
def kj:TE:=fun _ H Q=>∀p,H p=none→Q (.ref p) (upd H p (.dK []))
section
variable{X:Cx}{pos:Pos}
theorem nA:PE X (.Dict [] [] pos) kj:=fun pins s σ H Q I h=>
 wpAny_Dict_empty ⟨.ref s.heap.objs.size,_,I.laid (a:=s.heap.objs.size) (o:=.dK []) (t':=s.toks) (fun _ _ q=>Heap.get?_push_of_some _ q) (Nat.le_refl _) (X6 s.heap I.big),rfl,h _ (I.hok.fresh (Nat.le_refl _))⟩
end
def Mu:List (TE×TE)→St→Hp→(List (V×V)→Hp→Prop)→Prop
 | [],_,H,Q=>Q [] H
 |(tk,tv)::r,σ,H,Q=>tk σ H fun x H1=>tv σ H1 fun y H2=>Mu r σ H2 fun ps H3=>Q ((x,y)::ps) H3
abbrev VV:List (V×V)→List (Value×Value)→Prop:=Paired fun p q=>RelV p.1 q.1∧RelV p.2 q.2
def Cv(X:Cx)(pos:Pos)(keys:List (Option Expr))(values:List Expr)(mV:List (TE×TE)):Prop:=
 ∀(pins:List (Addr×Obj)) (s:Shared) (σ:St) (H:Hp) (Q:List (V×V)→Hp→Prop),Inv X pins σ H s→Mu mV σ H Q→
  wpAny (model X.prog X.w) X.A (evalPairs (pairTrees keys values X.env pos)) (fun vs s'=>∃ps H',Inv X pins σ H' s'∧VV ps vs∧Q ps H') X.xe s
theorem Zd{X:Cx}{pos:Pos}:Cv X pos [] [] []:=fun pins s σ H Q I h=>pairTrees_nil_walk ⟨[],H,I,.nil,h⟩
theorem X7{X:Cx}{pos:Pos}{k v:Expr}{ks:List (Option Expr)}{vs:List Expr}{tk tv:TE}{mV:List (TE×TE)}(hk:PE X k tk)(hv:PE X v tv)(hr:Cv X pos ks vs mV):
 Cv X pos (some k::ks) (v::vs) ((tk,tv)::mV):=fun pins s σ H Q I h=>
 pairTrees_cons_walk (aN (hk pins s σ H _ I h) fun u s1 ⟨x,H1,I1,rx,q1⟩=>aN (hv pins s1 σ H1 _ I1 q1) fun w2 s2 ⟨y,H2,I2,ry,q2⟩=>
  aN (hr pins s2 σ H2 _ I2 q2) fun ws s3 ⟨ps,H3,I3,rel,q3⟩=>⟨(x,y)::ps,H3,I3,.cons ⟨rx,ry⟩ rel,q3⟩)
def kE(kvs more:List (Key×V)):List (Key×V):=more.foldl (fun acc kv=>putK acc kv.1 kv.2) kvs
theorem KV.merge:∀{more:List (Key×V)} {rs:List (Key×Value)} {kvs:List (Key×V)} {vs:List (Key×Value)},KV more rs→KV kvs vs→KV (kE kvs more) (merged vs rs):=by
 intro more rs kvs vs r
 unfold KV at r
 induction r generalizing kvs vs with
 |nil=>intro q;exact q
 | @cons p q ps qs h t ih=>
   intro r0
   have e:KV (putK kvs p.1 p.2) (stored vs q.1 q.2):=by
    have:=r0.put p.1 h.2
    rw[←h.1];exact this
   exact ih e
theorem xR:∀(more kvs:List (Key×V)),(kE kvs more).length≤kvs.length+more.length
 | [],kvs=>by show kvs.length≤kvs.length+0;omega
 |p::r,kvs=>by
  have h1:=xR r (putK kvs p.1 p.2)
  have h2:=tO kvs p.1 p.2
  show(kE (putK kvs p.1 p.2) r).length≤_
  rw[List.length_cons];omega
theorem Vz{P:Program}{w:World}:∀{kvs:List (Key×V)} {ws:List (Value×Value)},VV (kvs.map fun kv=>(kV kv.1,kv.2)) ws→∃rs,Carries (fV P w) ws rs∧KV kvs rs
 | [],_,r=>by rw[List.map_nil] at r;cases r;exact⟨[],True.intro,.nil⟩
 |p::kvs,_,r=>by
  rw[List.map_cons] at r
  cases r with
  | @cons a b as bs h t=>
    obtain⟨rs,c,q⟩:=Vz (P:=P) (w:=w) t
    obtain⟨b1,b2⟩:=b
    exact⟨(p.1,b2)::rs,⟨rH h.1,rfl,c⟩,.cons ⟨rfl,h.2⟩ q⟩
def Np(mV:List (TE×TE)):TE:=fun σ H Q=>∀p,H p=none→Mu mV σ (upd H p (.dK [])) fun ps H2=>H2 p=some (.dK [])∧∃kvs:List (Key×V),ps=kvs.map (fun kv=>(kV kv.1,kv.2))∧kvs.length≤15∧Q (.ref p) (upd H2 p (.dK (kE [] kvs)))
theorem Ze{X:Cx}{pos:Pos}{keys:List (Option Expr)}{values:List Expr}{mV:List (TE×TE)}(h:Cv X pos keys values mV)(hall:keys.all (·.isSome)=true)(hl:keys.length=values.length)(h0:keys≠[])
 (h15:keys.length≤15):PE X (.Dict keys values pos) (Np mV):=by
 intro pins s σ H Q I q
 have hn:=I.hok.fresh (Nat.le_refl s.heap.objs.size)
 have I1:=I.laid (a:=s.heap.objs.size) (o:=.dK []) (h':=s.heap.push {cls:=.type "dict",data:=.dict #[]}) (t':=s.toks) (fun _ _ q=>Heap.get?_push_of_some _ q) (Nat.le_refl _) (X6 s.heap I.big)
 refine wpAny_Dict_walk (knd:=fV X.prog X.w) hall hl h0 h15 (aN (h pins _ σ _ _ I1 (q _ hn)) fun ws s2 ⟨ps,H2,I2,rel,e,kvs,ep,lk,q2⟩=>?_)
 subst ep
 obtain⟨rs,c,rk⟩:=Vz (P:=X.prog) (w:=X.w) rel
 obtain⟨z,hd,vs0,r0,dd⟩:=uX I2.hok e
 cases r0
 refine⟨rs,c,dd,fun h' pY hs=>⟨.ref s.heap.objs.size,_,?_,rfl,q2⟩⟩
 have hz:(kE [] kvs).length≤sizeLine:=by
  have h1:=xR kvs []
  rw[List.length_nil] at h1
  rw[sizeLine_eq];omega
 have he:∃q,h'.get? s.heap.objs.size=some q:=let ⟨q,_,_,hq,_⟩:=pY;⟨q,hq⟩
 exact zR I2 (by rw[e];exact True.intro) hs he (Ms hz hd (rk.merge .nil) pY)
end L2
namespace L2
open PySem PySem.Spec PyProof.Rows
end L2
namespace L2
open PySem PySem.Spec PyProof.Rows
section
variable{X:Cx}{pins:List (Addr×Obj)}{σ:St}{H:Hp}{s:Shared}{h':Heap}
theorem Inv.WR{t':Nat}{ch:List Addr}{T:Addr}{ob:HO}(I:Inv X pins σ H s)(k:∀b o,b∉ch→s.heap.get? b=some o→h'.get? b=some o)(hf:∀b∈ch,jT X pins H b)(hT:s.heap.objs.size≤T)
 (new:dI X.prog X.w (upd H T ob) h' T ob):Inv X pins σ (upd H T ob) {s with heap:=h',toks:=t'}:=by
 have hn:H T=none:=I.hok.fresh hT
 have vD:∀b u,H b=some u→b∉ch:=fun b u e z=>by
  have q:=(hf b z).1
  rw[q] at e;cases e
 refine I.step (g':=s.gens) (d':=s.drawn) (ch:=ch) (fun b hb=>⟨(hf b hb).2.2.2.1,(hf b hb).2.1,(hf b hb).2.2.2.2.1,(hf b hb).2.2.2.2.2⟩) (fun b o _ _ hc e _=>k b o hc e) (fun b o _ _ hc e _=>⟨o.slots,k b o hc e⟩)
  (fun b o _ e n=>?_) (fun b o hc e=>⟨o,k b o hc e⟩) (fun b xs e=>?_) (fun b o u e=>?_) (fun b ps e=>⟨#[],?_⟩) (fun m hm=>?_) (fun b u e=>?_) I.bare
 ·rw[aH (Nat.ne_of_lt (Nat.lt_of_lt_of_le (Heap.lt_size e) hT))];exact n
 ·rw[aH (bM e hn)];exact e
 ·rw[aH (bM e hn)];exact e
 ·rw[aH (bM e hn),e];simp
 ·obtain⟨o,es,ep,ho,r⟩:=hm
  exact⟨o,es,ep,k _ o (fun z=>(hf _ z).2.1 rfl) ho,r⟩
 ·by_cases hb:b=T
  ·subst hb
   rw[aC] at e
   cases e
   exact new
  ·rw[aH hb] at e
   refine(I.hok b u e).stay (fun c v hc q=>k c v ?_ q) (fun c q=>by rw[aH (bM q hn)];exact q) fun c xs q=>by rw[aH (bM q hn)];exact q
   rcases hc with z|z
   ·rw[z];exact vD b u e
   ·exact vD c _ z
end
section
variable{X:Cx}
theorem aac{tg:Expr}{pins:List (Addr×Obj)}{σ:St}{H:Hp}{s:Shared}{R:It→Hp→Prop}{J:It}{tn:Nat→Heap→Prop}{tk:Nat}(I:Inv X pins σ H s)(o:Obj)
 (T:Turn X.prog X.w X.K tg J [s.heap.objs.size] s.heap.objs.size tn)(st:tn 0 (s.heap.push o))(q:R J H):PIE X pins σ tg R (.ref s.heap.objs.size) {s with heap:=s.heap.push o,toks:=tk}:=by
 refine⟨s.heap.objs.size,[s.heap.objs.size],tn,J,H,rfl,I.kept fun b ob e=>Heap.get?_push_of_some _ e,T,st,fun b hb=>?_,q⟩
 have e:b=s.heap.objs.size:=by simpa using hb
 subst e
 exact I.rY (Nat.le_refl _) (I.hok.fresh (Nat.le_refl _))
end
def Its(x:Str):It:=⟨fun i _=>i<x.cps.size,fun i H v H'=>H'=H∧∃c,x.cps[i]? =some c∧v= .str ⟨#[c]⟩,fun i _=>x.cps.size≤i⟩
theorem X8{P:Program}{w:World}{K:PySem.W.Frag}{tg:Expr}(it:Addr)(x:Str)(t:Tok)(ty:String)(hty:ty="str_ascii_iterator"∨ty="str_iterator"):
 Turn P w K tg (Its x) [it] it (fun i h=>h.IsStrIter it ty x t i) where
 mem:=by simp
 obj:=fun i h st b hb=>by
  have e:b=it:=by simpa using hb
  subst e
  obtain⟨o,e,c,d⟩:=st
  exact⟨o,e,fun v z=>by rw[d] at z;cases z⟩
 keep:=fun i h h' st k=>let ⟨o,ho,r⟩:=st;⟨o,k it (by simp) o ho,r⟩
 item:=by
  intro X hP hw hK hc i pins s σ H E I hf st hg
  subst hP hw hK
  obtain⟨f0,f1,f2,f3,f4,f5⟩:=hf it (by simp)
  have W:Walks X.prog X.w X.A it [it] [it] x.cps.size (SignAt x) (fun i h=>h.IsStrIter it ty x t i):=by
   rcases hty with e|e
   ·rw[e];exact Walks.strAscii (I.ok.hd hc) it x t
   ·rw[e];exact Walks.strWide (I.ok.hd hc) it x t
  have hno:["enumerate","zip","dict_itemiterator","dict_reverseitemiterator","odict_iterator","itertools.zip_longest","itertools.pairwise"].contains ty=false:=by
   rcases hty with e|e
   ·rw[e];decide
   ·rw[e];decide
  refine W.item i s _ _ hg st fun v h' tk hv st' kk=>?_
  obtain⟨c,u,hcx,rfl⟩:=hv
  have I1:Inv X pins σ H {s with heap:=h',toks:=tk}:=I.turned (fun b o hb e=>kk b o (by simpa using hb) e) f0 f1 f3 f4 f5
  obtain⟨oi,e,cc,dd⟩:=id st'
  exact⟨_,rfl,Nh (s:={s with heap:=h',toks:=tk}) e cc dd hno ⟨.str ⟨#[c]⟩,H,I1,⟨u,rfl⟩,⟨rfl,c,hcx,rfl⟩,st',fun b hb=>(hf b hb).1⟩⟩
 done:=by
  intro X hP hw hK hc i pins s σ H E I hf st hg
  subst hP hw hK
  obtain⟨f0,f1,f2,f3,f4,f5⟩:=hf it (by simp)
  have hx:x.cps[i]? =none:=Array.getElem?_eq_none hg
  rcases hty with e|e
  ·rw[e] at st
   exact wpAny_pyNext_ascii_end (I.ok.hd hc) st hx fun h' eb=>⟨rfl,I.turned (t':=s.toks) (fun b o hb e=>eb b o hb e) f0 f1 f3 f4 f5⟩
  ·rw[e] at st
   exact wpAny_pyNext_wide_end (I.ok.hd hc) st hx fun h' eb=>⟨rfl,I.turned (t':=s.toks) (fun b o hb e=>eb b o hb e) f0 f1 f3 f4 f5⟩
 self:=fun A i s Q E st h=>by
  rcases hty with e|e
  ·rw[e] at st;exact wpAny_pyIter_striter_ascii st h
  ·rw[e] at st;exact wpAny_pyIter_striter_wide st h
def aa2(te:TE):TI:=fun σ H R=>te σ H fun v H1=>∃x,v= .str x∧R (Its x) H1
theorem ajK{X:Cx}{tg e:Expr}{te:TE}(he:PE X e te):PI X tg e (aa2 te):=by
 intro pins s σ H R I h
 refine aN (he pins s σ H _ I h) fun v s1 ⟨y,H1,I1,r1,x,ex,q⟩=>?_
 subst ex
 obtain⟨t,rfl⟩:=r1
 cases ha:x.cps.all (· <128)
 ·exact wpAny_pyIter_wide ha (aac (tk:=s1.toks) I1 _ (X8 _ x t "str_iterator" (.inr rfl)) ⟨_,Heap.get?_push_size _ rfl,rfl,rfl⟩ q)
 ·exact wpAny_pyIter_ascii ha (aac (tk:=s1.toks) I1 _ (X8 _ x t "str_ascii_iterator" (.inl rfl)) ⟨_,Heap.get?_push_size _ rfl,rfl,rfl⟩ q)
theorem gH{α β:Type}{G:α→β→Prop}{l₁:List α}{l₂:List β}(h:Paired G l₁ l₂):∀{i:Nat} {a:α},l₁[i]? =some a→∃b,l₂[i]? =some b∧G a b:=by
 induction h with
 |nil=>intro i a e;simp at e
 | @cons a b l₁ l₂ r t ih=>
   intro i a' e
   cases i with
   |zero=>
    simp only[List.getElem?_cons_zero,Option.some.injEq] at e
    subst e
    exact⟨b,rfl,r⟩
   |succ j=>
    simp only[List.getElem?_cons_succ] at e⊢
    exact ih e
def Ite(K:PySem.W.Frag)(a:Addr):It:=
 ⟨fun i H=>∃(xs:List V) (x:V),au K H a xs∧xs[i]? =some x,fun i H v H'=>∃T x,v= .ref T∧H T=none∧H'=upd H T (.tup [.int (i:Nat),x])∧∀xs,au K H a xs→xs[i]? =some x,fun i H=>∃xs:List V,au K H a xs∧xs.length≤i⟩
theorem agm{P:Program}{w:World}{K:PySem.W.Frag}{elts:List Expr}{kk:Nat}{tpos:Pos}(a e it:Addr):
 Turn P w K (.Tuple elts kk tpos) (Ite K a) [e,it] e (fun i h=>(∃old,IsEnum h e it ((i:Nat):Int) old)∧h.IsListIter it a i∧e≠it) where
 mem:=by simp
 obj:=fun i h st b hb=>by
  obtain⟨⟨old,he⟩,⟨o,ho,hc,hd⟩,_⟩:=st
  have e':b=e∨b=it:=by simpa using hb
  rcases e' with z|z
  ·rw[z];exact⟨_,he,fun v q=>nomatch q⟩
  ·rw[z];exact⟨o,ho,fun v q=>by rw[hd] at q;cases q⟩
 keep:=fun i h h' st k=>let ⟨⟨old,he⟩,hi,hne⟩:=st;⟨⟨old,k e (by simp) _ he⟩,hi.at fun o q=>k it (by simp) o q,hne⟩
 item:=by
  intro X hP hw hK hc i pins s σ H E I hf st hg
  subst hP hw hK
  obtain⟨⟨old,he⟩,hit,hne⟩:=st
  obtain⟨xs,x,hq,hx⟩:=hg
  obtain⟨its,rv,p,hz⟩:=I.list hq
  obtain⟨u,hu,ru⟩:=rv.get hx
  have hel:e<s.heap.objs.size:=Heap.lt_size he
  have hil:it<s.heap.objs.size:=by obtain⟨_,q,_⟩:=hit;exact Heap.lt_size q
  refine wpAny_pyNext_enum_item he hit p.isList (x:=u) (by simpa using hu) hne fun h' ho hit' hT hsz hk=>?_
  refine⟨_,rfl,wpAny_letOwnedTupleGo_enum (s:={s with heap:=h',toks:=s.toks+1}) ho fun h'' he' sb=>?_⟩
  have hT2:h''.get? s.heap.objs.size=some {cls:=.type "tuple",data:=.seq #[.int i s.toks,u]}:=(sb.2 _ (Nat.ne_of_gt hel)).trans hT
  have new:dI X.prog X.w (upd H s.heap.objs.size (.tup [.int (i:Nat),x])) h'' s.heap.objs.size (.tup [.int (i:Nat),x]):=
   ⟨by show 2≤sizeLine;decide,[.int i s.toks,u],.cons ⟨_,rfl⟩ (.cons ru .nil),⟨_,hT2,rfl,_,rfl⟩⟩
  have I1:Inv X pins σ (upd H s.heap.objs.size (.tup [.int (i:Nat),x])) {s with heap:=h'',toks:=s.toks+1}:=
   I.WR (ch:=[e,it]) (fun b ob hb q=>(sb.2 b (fun z=>hb (by simp[z]))).trans (hk b ob (fun z=>hb (by simp[z])) (fun z=>hb (by simp[z])) q)) hf (Nat.le_refl _) new
  refine⟨.ref s.heap.objs.size,_,I1,rfl,⟨_,x,rfl,I.hok.fresh (Nat.le_refl _),rfl,fun ys hy=>by rw[I.XS hy hq];exact hx⟩,⟨⟨u,?_⟩,hit'.at fun o q=>(sb.2 it (Ne.symm hne)).trans q,hne⟩,fun b hb=>?_⟩
  ·have e1:((i+1:Nat):Int)=(i:Int)+1:=by omega
   rw[e1];exact he'
  ·have hb':b<s.heap.objs.size:=by
    have e':b=e∨b=it:=by simpa using hb
    rcases e' with z|z
    ·rw[z];exact hel
    ·rw[z];exact hil
   rw[aH (Nat.ne_of_lt hb')]
   exact(hf b hb).1
 done:=by
  intro X hP hw hK hc i pins s σ H E I hf st hg
  subst hP hw hK
  obtain⟨⟨old,he⟩,hit,hne⟩:=st
  obtain⟨xs,hq,hx⟩:=hg
  obtain⟨its,rv,p,hz⟩:=I.list hq
  obtain⟨f0,f1,f2,f3,f4,f5⟩:=hf it (by simp)
  have hl:=rv.length
  exact wpAny_pyNext_enum_end (I.ok.hd hc) he hit p.isList (by simp;omega) fun h' eb=>⟨rfl,I.turned (t':=s.toks) (fun b o hb q=>eb b o hb q) f0 f1 f3 f4 f5⟩
 self:=fun A i s Q E st h=>let ⟨⟨_,he⟩,_⟩:=st;wpAny_pyIter_enum he h
def mq(K:PySem.W.Frag)(ta:TA):TI:=fun σ H R=>ta σ H fun vs H1=>∃a xs,vs=[.ref a]∧au K H1 a xs∧R (Ite K a) H1
theorem nO{X:Cx}{e:Expr}{ta:TA}{p pos tpos:Pos}{elts:List Expr}{kk:Nat}(hg:Gl X "enumerate")(hm:X.mg "enumerate"=none)(ha:PA X [e] ta)(hs:starEach [e] X.env=[(false,eval e X.env)]:=by rfl):
 PI X (.Tuple elts kk tpos) (.Call (.Name "enumerate" p) [e] [] pos) (mq X.K ta):=by
 intro pins s σ H R I h
 refine Call_ (lW I hg hm boot_enumerate (PyProof.Rows.callWith_type1 (aN (ha pos pins s σ H _ I h) fun us s1 ⟨vs,H1,I1,r1,q1⟩=>?_) hs rfl))
 obtain⟨a,xs,ex,hq,q⟩:=q1
 subst ex
 cases r1 with
 |cons r rr=>
  cases rr
  cases r
  obtain⟨its,rv,p',hz⟩:=I1.list hq
  refine call_enumerate_list p'.isList fun h' he hit hsz hk=>wpAny_pyIter_enum he ?_
  have I2:Inv X pins σ H1 {s1 with heap:=h'}:=I1.kept (t':=s1.toks) hk
  refine⟨s1.heap.objs.size+1,[s1.heap.objs.size+1,s1.heap.objs.size],_,_,H1,rfl,I2,agm a (s1.heap.objs.size+1) s1.heap.objs.size,⟨⟨.none,he⟩,hit,Nat.succ_ne_self _⟩,fun b hb=>?_,q⟩
  have e':b=s1.heap.objs.size+1∨b=s1.heap.objs.size:=by simpa using hb
  have hle:s1.heap.objs.size≤b:=by
   rcases e' with z|z
   ·rw[z];exact Nat.le_add_right _ _
   ·rw[z];exact Nat.le_refl _
  exact I1.rY hle (I1.hok.fresh hle)
end L2
section
namespace Bits
open PySem PyProof.Rows
theorem ahl{x y:Int}(hx:0≤x)(hy:0≤y):Builtin.bitOr x y=((x.toNat ||| y.toNat:Nat):Int):=by
 have e:=nat_or_add_and x.toNat y.toNat
 rw[bitOr_and,bitAnd_pp hx hy]
 omega
end Bits
end
section
namespace TL
open PySem PySem.Builtin PySem.Builtin.Str PySem.StrLaws
abbrev tl(x:Str):List Nat:=x.cps.toList
theorem rC(x:Str):x.length=(tl x).length:=by simp[tl,Str.length]
theorem Mv{x y:Str}(h:tl x=tl y):x=y:=Str.ext' (Array.toList_inj.mp h)
theorem WT(x y:Str):tl (x++y)=tl x++tl y:=by
 show(x++y).cps.toList=_
 rw[Str.cps_append,Array.toList_append]
theorem VB:∀{l m:List Str},l.map tl=m.map tl→l=m
 | [],[],_=>rfl
 | [],_::_,h=>by simp at h
 |_::_,[],h=>by simp at h
 |x::l,y::m,h=>by
  rw[List.map_cons,List.map_cons] at h
  injection h with h1 h2
  rw[Mv h1,VB h2]
def pre(S l:List Nat):Bool:=l.take S.length==S
def spl(S:List Nat):Nat→List Nat→List Nat→List (List Nat)
 |_,acc,[]=>[acc]
 |0,acc,c::r=>if pre S (c::r)=true then acc::spl S (S.length - 1) [] r else spl S 0 (acc++[c]) r
 |k+1,acc,_::r=>spl S k acc r
theorem La(S:List Nat)(k:Nat)(acc:List Nat):spl S k acc []=[acc]:=by cases k<;>rfl
theorem Zf{S acc r:List Nat}{c:Nat}(h:pre S (c::r)=true):spl S 0 acc (c::r)=acc::spl S (S.length - 1) [] r:=by
 show(if pre S (c::r)=true then acc::spl S (S.length - 1) [] r else spl S 0 (acc++[c]) r)=_
 rw[if_pos h]
theorem X_{S acc r:List Nat}{c:Nat}(h:pre S (c::r)=false):spl S 0 acc (c::r)=spl S 0 (acc++[c]) r:=by
 show(if pre S (c::r)=true then acc::spl S (S.length - 1) [] r else spl S 0 (acc++[c]) r)=_
 rw[if_neg (by rw[h];exact Bool.false_ne_true)]
theorem Yb(S:List Nat):∀(k:Nat) (acc l:List Nat),spl S k acc l=spl S 0 acc (l.drop k)
 |0,_,_=>by rw[List.drop_zero]
 |k+1,acc,[]=>by rw[List.drop_nil,La,La]
 |k+1,acc,c::r=>by
  show spl S k acc r=spl S 0 acc (r.drop k)
  exact Yb S k acc r
theorem aiv{S:List Nat}(hS:S≠[]):pre S []=false:=by
 cases S with
 |nil=>exact absurd rfl hS
 |cons s S=>rfl
theorem aev{s c:Nat}(S r:List Nat)(h:c≠s):pre (s::S) (c::r)=false:=by
 cases hp:pre (s::S) (c::r) with
 |false=>rfl
 |true=>
  have e:(c::r).take (s::S).length=s::S:=eq_of_beq hp
  rw[List.length_cons,List.take_succ_cons] at e
  injection e with e1 e2
  exact absurd e1 h
theorem ab2{L:List Nat}{a:Nat}(h:a<L.length):∃c,L.drop a=c::L.drop (a+1):=⟨L[a],List.drop_eq_getElem_cons h⟩
theorem Lb(S L:List Nat):∀(m a:Nat) (acc:List Nat),a+m≤L.length→(∀k,a≤k→k<a+m→pre S (L.drop k)=false)→
 spl S 0 acc (L.drop a)=spl S 0 (acc++(L.drop a).take m) (L.drop (a+m))
 |0,a,acc,_,_=>by rw[List.take_zero,List.append_nil,Nat.add_zero]
 |m+1,a,acc,h,hn=>by
  have hlt:a<L.length:=by omega
  obtain⟨c,e⟩:=ab2 hlt
  have h0:=hn a (Nat.le_refl _) (by omega)
  have ih:=Lb S L m (a+1) (acc++[c]) (by omega) (fun k h1 h2=>hn k (by omega) (by omega))
  have e2:a+1+m=a+(m+1):=by omega
  rw[e2] at ih
  rw[e] at h0
  rw[e,X_ h0,ih,List.take_succ_cons,List.append_assoc]<;>rfl
theorem ahm(L:List Nat)(a b:Nat):(L.drop a).drop b=L.drop (a+b):=by
 first
  |rw[List.drop_drop]
  |rw[List.drop_drop,Nat.add_comm]
theorem ajL{S L:List Nat}(hS:S≠[]){c:Nat}{acc:List Nat}(h:pre S (L.drop c)=true):spl S 0 acc (L.drop c)=acc::spl S 0 [] (L.drop (c+S.length)):=by
 rw[←ahm]
 cases e:L.drop c with
 |nil=>rw[e,aiv hS] at h;cases h
 |cons d r=>
  rw[e] at h
  rw[Zf h,Yb]
  cases S with
  |nil=>exact absurd rfl hS
  |cons s S=>rfl
theorem aad{x y:Str}(hy:tl y≠[])(i:Nat):At x y x.length i↔pre (tl y) ((tl x).drop i)=true:=by
 have hx:=rC x
 have hl:=rC y
 constructor
 ·intro h
  have h2:=h.2
  rw[subAt_eq,hl] at h2
  exact h2
 ·intro h
  have e:((tl x).drop i).take (tl y).length=tl y:=eq_of_beq h
  have e1:=congrArg List.length e
  rw[List.length_take,List.length_drop] at e1
  have e2:0<(tl y).length:=List.length_pos_iff.mpr hy
  refine⟨by omega,?_⟩
  rw[subAt_eq,hl]
  exact h
theorem aav{x y:Str}(hy:tl y≠[]){i:Nat}(h:¬At x y x.length i):pre (tl y) ((tl x).drop i)=false:=by
 cases hp:pre (tl y) ((tl x).drop i) with
 |false=>rfl
 |true=>exact absurd ((aad hy i).mpr hp) h
theorem len1{y:Str}(hy:tl y≠[]):1≤y.length:=by
 have e2:0<(tl y).length:=List.length_pos_iff.mpr hy
 rw[rC y]
 exact e2
theorem WW(x:Str)(i j:Nat):tl (strSub x i j)=((tl x).drop i).take (j - i):=strSub_toList x i j
theorem adp(x:Str)(i:Nat):tl (strSub x i x.length)=(tl x).drop i:=by
 rw[WW,rC x]
 exact List.take_of_length_le (by rw[List.length_drop]<;>omega)
theorem WX{x y:Str}(hy:tl y≠[]):∀(cuts:List Nat) (a f:Nat),a≤(tl x).length→ChainG x y x.length a cuts f→(∀k,f≤k→¬At x y x.length k)→
 (partsFrom x y.length a cuts).map tl=spl (tl y) 0 [] ((tl x).drop a)
 | [],a,f,ha,h,hn=>by
   have e:f=a:=h
   subst e
   show [tl (strSub x f x.length)]=_
   have run:=Lb (tl y) (tl x) ((tl x).length - f) f [] (by omega) (fun k h1 _=>aav hy (hn k h1))
   have e2:f+((tl x).length - f)=(tl x).length:=by omega
   rw[e2,List.drop_length,La,List.nil_append,List.take_of_length_le (by rw[List.length_drop]<;>omega)] at run
   rw[run,adp]
 |c::r,a,f,ha,h,hn=>by
  obtain⟨h1,h2,h3,h4⟩:=h
  have hc:c+y.length≤x.length:=h2.1
  have hx:=rC x
  have hl:=rC y
  have ih:=WX hy r (c+y.length) f (by omega) h4 hn
  show tl (strSub x a c)::(partsFrom x y.length (c+y.length) r).map tl=_
  have run:=Lb (tl y) (tl x) (c - a) a [] (by omega) (fun k k1 k2=>aav hy (h3 k k1 (by omega)))
  have e2:a+(c - a)=c:=by omega
  rw[e2,List.nil_append,ajL hy ((aad hy c).mp h2)] at run
  rw[run,ih,WW,hl]
theorem agn(x y:Str)(hy:tl y≠[])(hk:¬Builtin.Str.strKind x<Builtin.Str.strKind y):(Txt.split x y).map tl=spl (tl y) 0 [] (tl x):=by
 obtain⟨f,g,hn⟩:=occ_tight x y (len1 hy)
 have key:=WX hy _ 0 f (Nat.zero_le _) g hn
 rw[List.drop_zero] at key
 have WY:occurrences x y 0 x.length (x.length+1)=[]→[x].map tl=spl (tl y) 0 [] (tl x):=fun ho=>by
  rw[ho] at key
  rw[←key]
  show [tl x]=[tl (strSub x 0 x.length)]
  rw[sub_whole]
 unfold Txt.split
 by_cases h1:(decide (x.length<y.length)||decide (Builtin.Str.strKind x<Builtin.Str.strKind y))=true
 ·rw[if_pos h1]
  have hlt:x.length<y.length:=by
   simp only[Bool.or_eq_true,decide_eq_true_eq] at h1
   rcases h1 with h|h
   ·exact h
   ·exact absurd h hk
  refine WY ?_
  cases ho:occurrences x y 0 x.length (x.length+1) with
  |nil=>rfl
  |cons c r=>
   rw[ho] at g
   have hc:c+y.length≤x.length:=g.2.1.1
   omega
 ·rw[if_neg h1]
  by_cases h2:(occurrences x y 0 x.length (x.length+1)).isEmpty=true
  ·rw[if_pos h2]
   exact WY (List.isEmpty_iff.mp h2)
  ·rw[if_neg h2,partsBetween_eq]
   exact key
theorem aiw{x y:Str}(h:y.cps.all (· <256)=true):¬Builtin.Str.strKind x<Builtin.Str.strKind y:=by
 have e:Builtin.Str.strKind y=1:=by unfold PySem.Builtin.Str.strKind;rw[if_pos h]
 rw[e]
 unfold PySem.Builtin.Str.strKind
 split
 ·omega
 ·split<;>omega
def rK(S:List Nat):List (List Nat)→List Nat
 | []=>[]
 | [p]=>p
 |p::q::r=>p++(S++rK S (q::r))
theorem Zg(y:Str):∀parts:List Str,tl (Str.join y parts)=rK (tl y) (parts.map tl)
 | []=>rfl
 | [_]=>rfl
 |x::z::r=>by
  show tl (x++y++Str.join y (z::r))=tl x++(tl y++rK (tl y) ((z::r).map tl))
  rw[WT,WT,Zg y (z::r),List.append_assoc]
theorem join_eq(y:Str)(parts:List Str):Txt.join y parts=Str.join y parts:=glued_eq_join y parts
end TL
end
namespace L2
open PySem PySem.Spec PyProof.Rows
theorem W0:∀l:List (Str×Tok),Vals ((l.map (·.1)).map V.str) (strValues l)
 | []=>.nil
 |p::r=>.cons ⟨p.2,rfl⟩ (W0 r)
theorem Hh:∀{ys:List Str} {us:List Value},Vals (ys.map V.str) us→StrsAre us ys
 | [],_,.nil=>.nil
 |y::ys,_,.cons r t=>by
  obtain⟨k,rfl⟩:=r
  exact .cons y k (Hh t)
def qN(ys:List Str):Hp→VK→Prop:=fun H Q=>∀p,H p=none→Q (.ref p) (upd H p (.lst (ys.map V.str)))
section
variable{X:Cx}{pins:List (Addr×Obj)}{σ:St}{H:Hp}{s:Shared}{Q:VK}
theorem JC{l:List (Str×Tok)}{ys:List Str}{k:Nat}(I:Inv X pins σ H s)(e:l.map (·.1)=ys)(hz:ys.length≤sizeLine)(h:qN ys H Q):
 EP X pins σ Q (.ref s.heap.objs.size) {s with toks:=k,heap:=s.heap.push {cls:=.type "list",data:=.seq (strValues l).toArray}}:=by
 have hp:=I.hok.fresh (Nat.le_refl _)
 refine⟨.ref s.heap.objs.size,upd H s.heap.objs.size (.lst (ys.map V.str)),I.laid (fun b u q=>Heap.get?_push_of_some _ q) (Nat.le_refl _) ⟨by rw[List.length_map];exact hz,strValues l,_,?_,Heap.get?_push_size _ rfl⟩,rfl,h _ hp⟩
 rw[←e]
 exact W0 l
end
section
variable{X:Cx}
theorem ahn:mR X "str.split" (fun x xs H Q=>∃a b,x= .str a∧xs=[.str b]∧(b.length==0)=false∧a.length+2≤sizeLine∧qN (Txt.split a b) H Q):=by
 intro pins s σ H x xs v us Q I rx rs h
 obtain⟨a,b,rfl,rfl,hb,hz,h⟩:=h
 obtain⟨t,rfl⟩:=rx
 cases rs with
 |cons r1 rs=>
  cases rs
  obtain⟨u,rfl⟩:=r1
  have hl:(Txt.split a b).length≤sizeLine:=Nat.le_trans (PyProof.Rows.split_le a b) hz
  have hn:(Builtin.Str.partsBetween a (Builtin.Str.occurrences a b 0 a.length (a.length+1)) b.length).length≤sizeLine:=by
   have e1:=StrLaws.occ_length_le a b 0 a.length (a.length+1)
   rw[length_partsBetween];omega
  cases h1:(decide (a.length<b.length)||decide (Builtin.Str.strKind a<Builtin.Str.strKind b))
  ·cases hf:(Builtin.Str.occurrences a b 0 a.length (a.length+1)).isEmpty
   ·refine call_meets F.slot_str_split (typeIs_str _ _ _) F.entry_str_split (F.args_str_split_2 _ _) (meets_str_split_sep a b t u h1 hb hf (by omega) hn) ?_
    show EP X pins σ Q (.ref s.heap.objs.size) {s with toks:=_,heap:=s.heap.push {cls:=.type "list",data:=.seq (strsFrom s.toks (Builtin.Str.partsBetween a (Builtin.Str.occurrences a b 0 a.length (a.length+1)) b.length)).toArray}}
    rw[strsFrom_eq]
    exact JC (ys:=Txt.split a b) I ((numbered_texts _ _).trans ((if_neg (ne_true_of_eq_false h1)).trans (if_neg (ne_true_of_eq_false hf))).symm) hl h
   ·refine call_meets F.slot_str_split (typeIs_str _ _ _) F.entry_str_split (F.args_str_split_2 _ _) (meets_str_split_not_found a b t u h1 hb hf) ?_
    exact JC (l:=[(a,t)]) (ys:=Txt.split a b) (k:=s.toks) I ((if_neg (ne_true_of_eq_false h1)).trans (if_pos hf)).symm hl h
  ·refine call_meets F.slot_str_split (typeIs_str _ _ _) F.entry_str_split (F.args_str_split_2 _ _) (meets_str_split_cannot_occur a b t u h1) ?_
   exact JC (l:=[(a,t)]) (ys:=Txt.split a b) (k:=s.toks) I (if_pos h1).symm hl h
theorem aix:mR X "str.join" (fun x xs H Q=>∃a p,∃ys:List Str,x= .str a∧xs=[.ref p]∧(au X.K H p (ys.map V.str)∨bK X.K H p (ys.map V.str))∧
 (ys.map (·.length)).sum+ys.length*a.length≤16777216∧Q (.str (Txt.join a ys)) H):=by
 intro pins s σ H x xs v us Q I rx rs h
 obtain⟨a,p,ys,rfl,rfl,hp,hz,h⟩:=h
 obtain⟨t,rfl⟩:=rx
 cases rs with
 |cons r1 rs=>
  cases rs
  cases r1
  rcases hp with hp|hp
  ·obtain⟨its,r,⟨o,n,ho,hc,_,hd⟩,_⟩:=I.list hp
   exact PyProof.Rows.join_list (items:=its.toArray) ⟨o,ho,hc,n,hd⟩ (by rw[List.toList_toArray];exact Hh r) hz fun t' k=>⟨.str _,H,I.tok k,⟨t',rfl⟩,h⟩
  ·obtain⟨its,r,ht,_⟩:=I.tuple hp
   exact PyProof.Rows.join_tuple (items:=its.toArray) ht (by rw[List.toList_toArray];exact Hh r) hz fun t' k=>⟨.str _,H,I.tok k,⟨t',rfl⟩,h⟩
theorem mt0{id:String}{C:Str→Prop}{g:Str→V}(rule:∀(a:Str) (t:Tok) (s:Shared) (Q:Value→Shared→Prop),C a→(∀(u:Value) (k:Nat),RelV (g a) u→Q u {s with toks:=k})→
 wpAny (model X.prog X.w) X.A (call (.builtin id) [.str a t]) Q X.xe s):mR X id (fun x xs H Q=>∃a,x= .str a∧xs=[]∧C a∧Q (g a) H):=by
 intro pins s σ H x xs v us Q I rx rs h
 obtain⟨a,rfl,rfl,hc,h⟩:=h
 obtain⟨t,rfl⟩:=rx
 cases rs
 exact rule a t s _ hc fun u k r=>⟨g a,H,I.tok k,r,h⟩
theorem afe:mR X "str.isdigit" (fun x xs H Q=>∃a,x= .str a∧xs=[]∧True∧Q (.bl (Txt.isdigit a)) H):=
 mt0 (C:=fun _=>True) (g:=fun a=>.bl (Txt.isdigit a)) fun _ _ s _ _ h=>PySem.SC.isdigit (h _ s.toks rfl)
theorem yc:kO X (.type "int") (fun xs H Q=>∃a n,xs=[.str a]∧PySem.intText? a=some n∧a.length≤640∧Q (.int n) H):=by
 intro pins s σ H xs us Q I rs h
 obtain⟨a,n,rfl,hn,hl,h⟩:=h
 cases rs with
 |cons r1 rs=>
  cases rs
  obtain⟨t,rfl⟩:=r1
  exact PySem.W.KIN.call_text hn hl ⟨.int n,H,I.tok _,⟨_,rfl⟩,h⟩
end
section
variable{X:Cx}{o e:Expr}{to te:TE}
def Oj(r:V→List V→Hp→VK→Prop)(to:TE):TE:=fun σ H Q=>to σ H fun x H1=>(∃a,x= .str a)∧r x [] H1 Q
def pZ(r:V→List V→Hp→VK→Prop)(to te:TE):TE:=fun σ H Q=>to σ H fun x H1=>(∃a,x= .str a)∧te σ H1 fun y H2=>r x [y] H2 Q
theorem akB{id:String}{name:Str}{apos pos:Pos}{r:V→List V→Hp→VK→Prop}(slot:Slot "str" name id)(ty:typeOf (.builtin id)=pure (.type "method_descriptor"))(rule:mR X id r)(ho:PE X o to)
 (hbase:attributeBase o name X.env (eval o X.env)=eval o X.env:=by rfl)(hline:(apos.endLine==pos.line)=true:=by rfl):PE X (.Call (.Attribute o name apos) [] [] pos) (Oj r to):=by
 intro pins s σ H Q I h
 refine PySem.Call_method0 hbase hline (aN (ho pins s σ H _ I h) fun v s1 ⟨x,H1,I1,r1,q1⟩=>?_)
 obtain⟨⟨a,rfl⟩,q1⟩:=q1
 obtain⟨t,rfl⟩:=_root_.id r1
 exact⟨"str",_,F.plainAttrs_str,slot,ty,typeIs_str _ _ _,(fun _ e=>nomatch e),Calls.callWith_builtin rfl (PySem.evalArgs_none (rule pins s1 σ H1 _ [] _ [] Q I1 r1 .nil q1))⟩
theorem aaw{id:String}{name:Str}{apos pos:Pos}{r:V→List V→Hp→VK→Prop}(slot:Slot "str" name id)(ty:typeOf (.builtin id)=pure (.type "method_descriptor"))(rule:mR X id r)(ho:PE X o to)(he:PE X e te)
 (hs:starEach [e] X.env=[(false,eval e X.env)]:=by rfl)(hbase:attributeBase o name X.env (eval o X.env)=eval o X.env:=by rfl)(hline:(apos.endLine==pos.line)=true:=by rfl):
 PE X (.Call (.Attribute o name apos) [e] [] pos) (pZ r to te):=by
 intro pins s σ H Q I h
 refine PySem.Call_method1 hbase hs hline (aN (ho pins s σ H _ I h) fun v s1 ⟨x,H1,I1,r1,q1⟩=>?_)
 obtain⟨⟨a,rfl⟩,q1⟩:=q1
 obtain⟨t,rfl⟩:=_root_.id r1
 refine⟨"str",_,F.plainAttrs_str,slot,ty,typeIs_str _ _ _,(fun _ e=>nomatch e),Calls.callWith_builtin rfl (Calls.evalArgs_plain (Calls.spliced_cons ?_))⟩
 exact aN (he pins s1 σ H1 _ I1 q1) fun u s2 ⟨y,H2,I2,r2,q2⟩=>Calls.spliced_nil (rule pins s2 σ H2 _ [y] _ [u] Q I2 r1 (.cons r2 .nil) q2)
theorem Yc{apos pos:Pos}(ho:PE X o to)(he:PE X e te)(hs:starEach [e] X.env=[(false,eval e X.env)]:=by rfl)(hbase:attributeBase o "split" X.env (eval o X.env)=eval o X.env:=by rfl)(hline:(apos.endLine==pos.line)=true:=by rfl):
 PE X (.Call (.Attribute o "split" apos) [e] [] pos) (pZ (fun x xs H Q=>∃a b,x= .str a∧xs=[.str b]∧(b.length==0)=false∧a.length+2≤sizeLine∧qN (Txt.split a b) H Q) to te):=
 aaw F.slot_str_split F.type_str_split ahn ho he hs hbase hline
theorem aiy{apos pos:Pos}(ho:PE X o to)(he:PE X e te)(hs:starEach [e] X.env=[(false,eval e X.env)]:=by rfl)(hbase:attributeBase o "join" X.env (eval o X.env)=eval o X.env:=by rfl)(hline:(apos.endLine==pos.line)=true:=by rfl):
 PE X (.Call (.Attribute o "join" apos) [e] [] pos) (pZ (fun x xs H Q=>∃a p,∃ys:List Str,x= .str a∧xs=[.ref p]∧(au X.K H p (ys.map V.str)∨bK X.K H p (ys.map V.str))∧
  (ys.map (·.length)).sum+ys.length*a.length≤16777216∧Q (.str (Txt.join a ys)) H) to te):=
 aaw F.slot_str_join F.type_str_join aix ho he hs hbase hline
end
end L2
namespace L2
open PySem PySem.Spec PyProof.Rows
section
variable{X:Cx}
theorem VD:cP X (compareOp .In) (fun x y H Q=>∃(c:Nat) (z:Str),x= .str ⟨#[c]⟩∧y= .str z∧Q (.bl (decide (c∈z.cps.toList))) H):=by
 intro pins s σ H x y v u Q I rx ry h
 obtain⟨c,z,rfl,rfl,q⟩:=h
 obtain⟨t,rfl⟩:=rx
 obtain⟨t',rfl⟩:=ry
 exact PyProof.Rows.in_str (cJ I q (PySem.StrLaws.found_one z c).symm)
theorem adq:cP X (compareOp .NotIn) (fun x y H Q=>∃(c:Nat) (z:Str),x= .str ⟨#[c]⟩∧y= .str z∧Q (.bl (!decide (c∈z.cps.toList))) H):=by
 intro pins s σ H x y v u Q I rx ry h
 obtain⟨c,z,rfl,rfl,q⟩:=h
 obtain⟨t,rfl⟩:=rx
 obtain⟨t',rfl⟩:=ry
 exact PyProof.Rows.notIn_str (cJ I q (congrArg Bool.not (PySem.StrLaws.found_one z c).symm))
end
end L2
namespace Att
open PySem PySem.W PySem.Calls PyProof.Rows
end Att
namespace L2
open PySem PySem.Spec PyProof.Rows
end L2
namespace L2
open PySem PySem.Spec PyProof.Rows
end L2
namespace L2
open PySem PySem.Spec PyProof.Rows
def inClass(s:Stmt)(j:Nat):Stmt:=match s with
 | .ClassDef _ _ _ body _ _ _ _ _ _ _=>body.getD j (.Pass ⟨0,0,0,0⟩)
 |_=>.Pass ⟨0,0,0,0⟩
def lR(s:Stmt):Arguments:=match s with
 | .FunctionDef _ a _ _ _ _ _ _ _ _=>a
 |_=>{posonlyargs:=[],args:=[],vararg:=none,kwonlyargs:=[],kw_defaults:=[],kwarg:=none,defaults:=[]}
def iQ(s:Stmt):List Stmt:=match s with
 | .FunctionDef _ _ b _ _ _ _ _ _ _=>b
 |_=>[]
def aO(s:Stmt):Scope:=match s with
 | .FunctionDef _ _ _ _ _ _ sc _ _ _=>sc
 |_=>{kind:=.function,names:=[],isGenerator:=false,isCoroutine:=false}
abbrev jc:jC:=fun _ _ _ _ _ _=>False
abbrev E0:XK:=fun _ _ _=>False
theorem uZ{X:Cx}:Passes jc X E0:=fun _ _ _ _ _ _ _ h=>h.elim
structure fu(K:PySem.W.Frag)(x qual:Str)(st:Stmt)(f:Addr)(fd:FuncData):Prop where
 ex:∃(oc:Value) (od:Option Addr) (kV doc pm:Value) (an:Option Addr) (cdv ct:Value) (osl:Array (Option Value)),
  fd=PySem.W.fnOf x qual (lR st) (iQ st) (aO st) .none kV doc pm an cdv ct∧K.lookup f=some ⟨oc,od,.func fd,osl⟩∧PySem.W.codeIn K cdv qual=true
 kp:PySem.W.keepIn K (.ref f)=true
section
variable{P:Program}{w:World}{K:PySem.W.Frag}{mg:Str→Option Value}{base:Heap}
theorem fu.ok{x qual:Str}{st:Stmt}{f:Addr}{fd:FuncData}{N ps:List Str}{k:Nat}{sp:Sp}(F:fu K x qual st f fd)(S:aW N ps (aO st))(len:∀vs H Q E,sp vs H Q E→vs.length=ps.length)
 (hbody:∀(cdv:Value) (A:Around) (outer:List Env) (s:Shared) (H:Hp) (vs:List V) (Q:VK) (E:XK),cO k (A.deeper (envOfC qual (aO st) s.heap.objs.size f cdv))→sp vs H Q E→
   ∃t,gC (mG jc P w K mg base N qual (aO st) f cdv A outer s H E).pW (iQ st) t∧t {nx:=fun _ H'=>Q .non H',rt:=Q} (start N vs) H):iC P w K mg base jc (k+1) f fd ps sp:=by
 obtain⟨oc,od,kV,doc,pm,an,cdv,ct,osl,rfl,lk,hcd⟩:=F.ex
 refine akx lk hcd S len fun A outer s H vs Q E hr hsp=>?_
 obtain⟨t,h,q⟩:=hbody cdv A outer s H vs Q E hr hsp
 exact⟨t,h.pW,q⟩
theorem fu.binds{x qual:Str}{st:Stmt}{f:Addr}{fd:FuncData}{ps:List Str}(F:fu K x qual st f fd)
 (h:∀(kV doc pm:Value) (an:Option Addr) (cdv ct:Value) (us:List Value),us.length=ps.length→bindArgs (PySem.W.fnOf x qual (lR st) (iQ st) (aO st) .none kV doc pm an cdv ct) ⟨us,[]⟩=pure (ps.zip us)):Binds K fd ps []:=by
 obtain⟨oc,od,kV,doc,pm,an,cdv,ct,osl,rfl,lk,hcd⟩:=F.ex
 exact .all (h kV doc pm an cdv ct)
theorem Mw{x qual:Str}{st:Stmt}{f:Addr}{oc:Value}{od an:Option Addr}{osl:Array (Option Value)}{kV doc pm cdv ct:Value}(l:K.lookup f=some ⟨oc,od,.func (PySem.W.fnOf x qual (lR st) (iQ st) (aO st) .none kV doc pm an cdv ct),osl⟩)
 (c:PySem.W.codeIn K cdv qual=true)(k:PySem.W.keepIn K (.ref f)=true):fu K x qual st f (PySem.W.fnOf x qual (lR st) (iQ st) (aO st) .none kV doc pm an cdv ct):=⟨⟨oc,od,kV,doc,pm,an,cdv,ct,osl,rfl,l,c⟩,k⟩
end
theorem akC{A:Around}{k:Nat}(hr:cO k A):A.units+1<cLine:=Nat.lt_of_le_of_lt (Nat.add_le_add_left (by decide:1≤64) _) hr.units
section
variable{X:Cx}
theorem pv(i:Nat){x:Str}{pos:Pos}(hN:X.N[i]? =some x:=by rfl)(hv:vB X.env.scope x:=by first|exact Or.inl rfl|exact Or.inr (Or.inl rfl)|exact Or.inr (Or.inr rfl))(hd:(x==("__debug__":Str))=false:=by decide)
 (hcd:(x==("__classdict__":Str))=false:=by decide):PE X (.Name x pos) (aj i):=ajv hN hv hd hcd
theorem W2:kO X (.builtin "len") (fun xs H Q=>∃a kvs,xs=[V.ref a]∧H a=some (.dK kvs)∧Q (.int kvs.length) H):=by
 intro pins s σ H xs us Q I r h
 obtain⟨a,kvs,rfl,ha,q⟩:=h
 obtain⟨u,rfl,ru⟩:=vals1 r
 cases ru
 exact akA I (.inl ha) fun t s' I'=>⟨.int kvs.length,H,I',⟨t,rfl⟩,q⟩
end
def Same(H H':Hp):Prop:=∀b o,H b=some o→H' b=some o
theorem Same.refl(H:Hp):Same H H:=fun _ _ h=>h
theorem Same.trans{H H1 H2:Hp}(a:Same H H1)(b:Same H1 H2):Same H H2:=fun c o h=>b c o (a c o h)
theorem Same.free{H H':Hp}(e:Same H H'){l:Addr}(h:H' l=Option.none):H l=Option.none:=by
 cases q:H l with
 |none=>rfl
 |some o=>
  rw[e l o q] at h
  cases h
theorem Same.seq{K:PySem.W.Frag}{H H':Hp}{a:Addr}{xs:List V}(e:Same H H')(h:au K H a xs):au K H' a xs:=by
 rcases h with(h|⟨o,h⟩)|h
 ·exact .inl (.inl (e _ _ h))
 ·exact .inl (.inr ⟨o,e _ _ h⟩)
 ·exact .inr h
section
variable{κ:Type}[DecidableEq κ]
theorem Yd{kvs:List (κ×V)}{k:κ}(h:aQ kvs k=none):¬k∈kvs.map (·.1):=by
 intro m
 obtain⟨p,hp,e⟩:=List.mem_map.mp m
 have q:(kvs.any fun kv=>decide (kv.1=k))=true:=List.any_eq_true.mpr ⟨p,hp,decide_eq_true e⟩
 rw[nq,h] at q
 exact absurd q (by simp)
theorem Zh{kvs:List (κ×V)}{k:κ}{v:V}(h:aQ kvs k=some v):k∈kvs.map (·.1):=by
 have q:(kvs.any fun kv=>decide (kv.1=k))=true:=by
  rw[nq,h]
  all_goals rfl
 obtain⟨p,hp,e⟩:=List.any_eq_true.mp q
 exact List.mem_map.mpr ⟨p,hp,of_decide_eq_true e⟩
theorem zT:∀{l:List κ} {k:κ},l.Nodup→¬k∈l→(l++[k]).Nodup
 | [],k,_,_=>by simp
 |a::r,k,h,hk=>by
  obtain⟨h1,h2⟩:=List.nodup_cons.mp h
  show(a::(r++[k])).Nodup
  refine List.nodup_cons.mpr ⟨fun m=>?_,zT h2 fun m=>hk (List.mem_cons.mpr (Or.inr m))⟩
  rcases List.mem_append.mp m with q|q
  ·exact h1 q
  ·exact hk (List.mem_cons.mpr (Or.inl (List.mem_singleton.mp q).symm))
end
theorem aax{α:Type}{l:List α}(hN:l.Nodup){i j:Nat}{x:α}(a:l[i]? =some x)(b:l[j]? =some x):i=j:=by
 obtain⟨h1,e1⟩:=List.getElem?_eq_some_iff.mp a
 obtain⟨h2,e2⟩:=List.getElem?_eq_some_iff.mp b
 exact(List.getElem_inj hN).mp (e1.trans e2.symm)
end L2
section
namespace L2
open PySem PySem.Spec PyProof.Rows
open PySem.W (WData Codec OpenSpec Well WellAll ReadsW ReadsAllW)
mutual
inductive Dw(K:PySem.W.Frag)(H:Hp):V→WData→Prop
 |non:Dw K H .non .none
 |bl (b:Bool):Dw K H (.bl b) (.bool b)
 |int (i:Int):Dw K H (.int i) (.int i)
 |str (x:Str):Dw K H (.str x) (.str x)
 |gB (b:Array UInt8):Dw K H (.gB b) (.bytes b.toList)
 |lst {a:Addr} {xs:List V} {ds:List WData}:au K H a xs→jq K H xs ds→Dw K H (.ref a) (.list ds)
 |tup {a:Addr} {xs:List V} {ds:List WData}:bK K H a xs→jq K H xs ds→Dw K H (.ref a) (.tuple ds)
inductive jq(K:PySem.W.Frag)(H:Hp):List V→List WData→Prop
 |nil:jq K H [] []
 |cons {v:V} {vs:List V} {d:WData} {ds:List WData}:Dw K H v d→jq K H vs ds→jq K H (v::vs) (d::ds)
end
theorem Zi{K:PySem.W.Frag}{H:Hp}:∀ns:List Int,jq K H (ns.map V.int) (ns.map WData.int)
 | []=>.nil
 |n::r=>.cons (.int n) (Zi r)
theorem Zj{K:PySem.W.Frag}{H:Hp}:∀(ns:List Int) (xs:List V),jq K H xs (ns.map WData.int)→xs=ns.map V.int
 | [],xs,h=>by
   cases h
   rfl
 |n::r,xs,h=>by
  cases h with
  |cons h1 h2=>
   cases h1
   rw[Zj r _ h2]<;>rfl
section
variable{P:Program}{w:World}{K:PySem.W.Frag}{H:Hp}{h:Heap}{R:PySem.W.WRecords}{cl:Str→Option Addr}
theorem ajM{a:Addr}{xs:List V}(hok:cI P w H h)(KX:K.In h)(q:au K H a xs):∃(its:List Value) (o:Obj) (n:Nat),Vals xs its∧h.get? a=some o∧o.cls= .type "list"∧o.data= .seq its.toArray n:=by
 rcases q with q|⟨o,its,n,e,hc,_,hd,_,hv⟩
 ·obtain⟨_,its,n,hv,e⟩:=(show dI P w H h a (.lst xs) from q.ok hok)
  exact⟨its,_,n,hv,e,rfl,rfl⟩
 ·exact⟨its.toList,o,n,hv,KX _ _ e,hc,by simp[hd]⟩
theorem ajN{a:Addr}{xs:List V}(hok:cI P w H h)(KX:K.In h)(q:bK K H a xs):∃(its:List Value) (o:Obj) (n:Nat),Vals xs its∧h.get? a=some o∧o.cls= .type "tuple"∧o.data= .seq its.toArray n:=by
 rcases q with q|⟨o,its,n,e,hc,hd,_,hv⟩
 ·obtain⟨_,its,hv,o,e,hc,n,hd⟩:=(show dI P w H h a (.tup xs) from q.ok hok)
  exact⟨its,o,n,hv,e,hc,hd⟩
 ·exact⟨its.toList,o,n,hv,KX _ _ e,hc,by simp[hd]⟩
mutual
theorem Dw.reads(hok:cI P w H h)(KX:K.In h):∀(d:WData) (v:V) (u:Value),Dw K H v d→RelV v u→∃as,ReadsW R cl h u d as
 | .none,_,_,x,r=>by
   cases x
   cases r
   exact⟨_,ReadsW.none⟩
 | .bool b,_,_,x,r=>by
   cases x
   cases r
   exact⟨_,ReadsW.bool b⟩
 | .int i,_,_,x,r=>by
   cases x
   obtain⟨t,rfl⟩:=r
   exact⟨_,ReadsW.int i t⟩
 | .str s,_,_,x,r=>by
   cases x
   obtain⟨t,rfl⟩:=r
   exact⟨_,ReadsW.str s t⟩
 | .bytes b,_,_,x,r=>by
   cases x
   obtain⟨t,rfl⟩:=r
   exact⟨_,ReadsW.bytes _ t⟩
 | .list ds,_,_,x,r=>by
   cases x with
   |lst hs ha=>
    cases r
    obtain⟨its,o,n,rv,ho,hc,hd⟩:=ajM hok KX hs
    obtain⟨as,hr⟩:=Dw.readsAll hok KX ds _ its ha rv
    exact⟨_,ReadsW.list ho hc hd hr⟩
 | .tuple ds,_,_,x,r=>by
   cases x with
   |tup hs ha=>
    cases r
    obtain⟨its,o,n,rv,ho,hc,hd⟩:=ajN hok KX hs
    obtain⟨as,hr⟩:=Dw.readsAll hok KX ds _ its ha rv
    exact⟨_,ReadsW.tuple ho hc hd hr⟩
 | .float _,_,_,x,_=>by cases x
 | .dict _,_,_,x,_=>by cases x
 | .bytearray _,_,_,x,_=>by cases x
 | .set _,_,_,x,_=>by cases x
 | .frozenset _,_,_,x,_=>by cases x
 | .obj _ _,_,_,x,_=>by cases x
theorem Dw.readsAll(hok:cI P w H h)(KX:K.In h):∀(ds:List WData) (vs:List V) (us:List Value),jq K H vs ds→Vals vs us→∃as,ReadsAllW R cl h us ds as
 | [],_,_,x,r=>by
   cases x
   cases r
   exact⟨_,ReadsAllW.nil⟩
 |d::ds,_,_,x,r=>by
  cases x with
  |cons h1 h2=>
   cases r with
   |cons r1 r2=>
    obtain⟨as,q1⟩:=Dw.reads hok KX d _ _ h1 r1
    obtain⟨bs,q2⟩:=Dw.readsAll hok KX ds _ _ h2 r2
    exact⟨_,ReadsAllW.cons q1 q2⟩
end
end
mutual
def iI:WData→Bool
 | .none=>true
 | .bool _=>true
 | .int _=>true
 | .str _=>true
 | .bytes _=>true
 | .list xs=>jy xs
 | .tuple xs=>jy xs
 |_=>false
def jy:List WData→Bool
 | []=>true
 |x::r=>iI x&&jy r
end
theorem Ye{α:Type}{f:α→WData}(h:∀a,iI (f a)=true):∀l:List α,jy (l.map f)=true
 | []=>rfl
 |x::r=>by
  show(iI (f x)&&jy (r.map f))=true
  rw[h x,Ye h r]<;>rfl
theorem nR:∀(c:Codec) (a:c.denote),iI (c.enc a)=true
 | .unit,_=>rfl
 | .bool,_=>rfl
 | .int _ _,_=>rfl
 | .nat _ _,_=>rfl
 | .u8,_=>rfl
 | .bytes _ _,_=>rfl
 | .text _ _ _ _,_=>rfl
 | .list _ _ c,a=>Ye (fun x=>nR c x) a
 | .pair c d,a=>by
   show(iI (c.enc a.1)&&(iI (d.enc a.2)&&true))=true
   rw[nR c a.1,nR d a.2]<;>rfl
 | .triple c d e,a=>by
   show(iI (c.enc a.1)&&(iI (d.enc a.2.1)&&(iI (e.enc a.2.2)&&true)))=true
   rw[nR c a.1,nR d a.2.1,nR e a.2.2]<;>rfl
 | .option c,none=>rfl
 | .option c,some x=>nR c x
theorem W3:∀(cs:List Codec) (a:Codec.denoteAll cs),jy (Codec.encAll cs a)=true
 | [],_=>rfl
 |c::cs,a=>by
  show(iI (c.enc a.1)&&jy (Codec.encAll cs a.2))=true
  rw[nR c a.1,W3 cs a.2]<;>rfl
theorem Jb:∀{xs:List WData} {d:WData},d∈xs→d.weight≤WData.weightAll xs
 | [],d,h=>absurd h (by simp)
 |x::r,d,h=>by
  show d.weight≤x.weight+1+WData.weightAll r
  rcases List.mem_cons.mp h with e|m
  ·rw[e]
   omega
  ·have z:=Jb m
   omega
def toV:Value→V
 | .none=>.non
 | .bool b=>.bl b
 | .int i _=>.int i
 | .str x _=>.str x
 | .bytes b _=>.gB b
 | .ref a=>.ref a
 |_=>.non
def jd(A:List Addr):Value→Prop
 | .none=>True
 | .bool _=>True
 | .int _ _=>True
 | .str _ _=>True
 | .bytes _ _=>True
 | .ref a=>a∈A
 |_=>False
theorem jd.mono{A B:List Addr}(h:∀a∈A,a∈B):∀{u:Value},jd A u→jd B u:=fun {u} x=>by
 cases u with
 |ref a=>exact h a x
 |none=>trivial
 |bool b=>trivial
 |int i t=>trivial
 |str s t=>trivial
 |bytes b t=>trivial
 |_=>exact False.elim x
theorem aho{A:List Addr}{u:Value}(x:jd A u):RelV (toV u) u:=by
 cases u with
 |ref a=>rfl
 |none=>rfl
 |bool b=>rfl
 |int i t=>exact⟨t,rfl⟩
 |str s t=>exact⟨t,rfl⟩
 |bytes b t=>exact⟨t,rfl⟩
 |_=>exact False.elim x
theorem qO{A:List Addr}:∀{vs:List Value},(∀u∈vs,jd A u)→Vals (vs.map toV) vs
 | [],_=>.nil
 |u::r,h=>.cons (aho (h u (List.mem_cons_self ..))) (qO fun x hx=>h x (List.mem_cons_of_mem _ hx))
def jr(h:Heap)(A:List Addr)(a:Addr):Prop:=∃vs:List Value,vs.length≤sizeLine∧(∀u∈vs,jd A u)∧
 (h.get? a=some {cls:=.type "list",data:=.seq vs.toArray}∨h.get? a=some {cls:=.type "tuple",data:=.seq vs.toArray})
theorem jr.mono{h:Heap}{A B:List Addr}{a:Addr}(k:∀a∈A,a∈B)(x:jr h A a):jr h B a:=by
 obtain⟨vs,h1,h2,h3⟩:=x
 exact⟨vs,h1,fun u hu=>(h2 u hu).mono k,h3⟩
theorem yG{P:Params}{h:Heap}:∀{vs:List Value} {ds:List WData},WellAll P h vs ds→vs.length=ds.length
 |_,_,.nil=>rfl
 |_,_,.cons _ b=>by
  show _+1=_+1
  rw[yG b]
theorem W4{P:Params}{h:Heap}{v:Value}{ds:List WData}(x:Well P h v (.list ds)):∃(a:Addr) (vs:List Value),v= .ref a∧h.get? a=some {cls:=.type "list",data:=.seq vs.toArray}∧WellAll P h vs ds:=by
 cases x with
 |list ho hall=>exact⟨_,_,rfl,ho,hall⟩
theorem VF{P:Params}{h:Heap}{v:Value}{ds:List WData}(x:Well P h v (.tuple ds)):∃(a:Addr) (vs:List Value),v= .ref a∧h.get? a=some {cls:=.type "tuple",data:=.seq vs.toArray}∧WellAll P h vs ds:=by
 cases x with
 |tuple ho hall=>exact⟨_,_,rfl,ho,hall⟩
theorem W5{P:Params}{h:Heap}{us:List Value}{d:WData}{ds:List WData}(x:WellAll P h us (d::ds)):∃(v:Value) (vs:List Value),us=v::vs∧Well P h v d∧WellAll P h vs ds:=by
 cases x with
 |cons a b=>exact⟨_,_,rfl,a,b⟩
theorem Zk{n:Nat}(h:n≤1048576):n≤sizeLine:=Nat.le_trans h (by decide)
section
variable{P:Params}{h:Heap}
mutual
theorem ahp:∀(d:WData) (v:Value),Well P h v d→iI d=true→d.weight≤1048576→∃A:List Addr,jd A v∧∀a∈A,jr h A a
 | .none,_,x,_,_=>by
   cases x
   exact⟨[],trivial,fun a m=>absurd m (by simp)⟩
 | .bool b,_,x,_,_=>by
   cases x
   exact⟨[],trivial,fun a m=>absurd m (by simp)⟩
 | .int i,_,x,_,_=>by
   cases x
   exact⟨[],trivial,fun a m=>absurd m (by simp)⟩
 | .str s,_,x,_,_=>by
   cases x
   exact⟨[],trivial,fun a m=>absurd m (by simp)⟩
 | .bytes b,_,x,_,_=>by
   cases x
   exact⟨[],trivial,fun a m=>absurd m (by simp)⟩
 | .list ds,_,x,p,z=>by
   obtain⟨a,vs,rfl,ho,hall⟩:=W4 x
   have z2:WData.weightAll ds≤1048576:=z
   obtain⟨A,h1,h2⟩:=zy ds _ hall p fun d hd=>Nat.le_trans (Jb hd) z2
   have k:∀b∈A,b∈a::A:=fun b hb=>List.mem_cons_of_mem _ hb
   refine⟨a::A,List.mem_cons_self ..,fun b hb=>?_⟩
   rcases List.mem_cons.mp hb with e|m
   ·rw[e]
    exact⟨vs,Zk (by rw[yG hall];exact Nat.le_trans (PySem.W.length_le_weightAllW ds) z2),fun u hu=>(h1 u hu).mono k,.inl ho⟩
   ·exact(h2 b m).mono k
 | .tuple ds,_,x,p,z=>by
   obtain⟨a,vs,rfl,ho,hall⟩:=VF x
   have z2:WData.weightAll ds≤1048576:=z
   obtain⟨A,h1,h2⟩:=zy ds _ hall p fun d hd=>Nat.le_trans (Jb hd) z2
   have k:∀b∈A,b∈a::A:=fun b hb=>List.mem_cons_of_mem _ hb
   refine⟨a::A,List.mem_cons_self ..,fun b hb=>?_⟩
   rcases List.mem_cons.mp hb with e|m
   ·rw[e]
    exact⟨vs,Zk (by rw[yG hall];exact Nat.le_trans (PySem.W.length_le_weightAllW ds) z2),fun u hu=>(h1 u hu).mono k,.inr ho⟩
   ·exact(h2 b m).mono k
 | .float _,_,_,p,_=>Bool.noConfusion (show false=true from p)
 | .dict _,_,_,p,_=>Bool.noConfusion (show false=true from p)
 | .bytearray _,_,_,p,_=>Bool.noConfusion (show false=true from p)
 | .set _,_,_,p,_=>Bool.noConfusion (show false=true from p)
 | .frozenset _,_,_,p,_=>Bool.noConfusion (show false=true from p)
 | .obj _ _,_,_,p,_=>Bool.noConfusion (show false=true from p)
theorem zy:∀(ds:List WData) (vs:List Value),WellAll P h vs ds→jy ds=true→(∀d∈ds,d.weight≤1048576)→∃A:List Addr,(∀u∈vs,jd A u)∧∀a∈A,jr h A a
 | [],_,x,_,_=>by
   cases x
   exact⟨[],fun u m=>absurd m (by simp),fun a m=>absurd m (by simp)⟩
 |d::ds,_,x,p,z=>by
  obtain⟨v,vs,rfl,x1,x2⟩:=W5 x
  have q:iI d=true∧jy ds=true:=Bool.and_eq_true_iff.mp p
  obtain⟨A,a1,a2⟩:=ahp d v x1 q.1 (z d (List.mem_cons_self ..))
  obtain⟨B,b1,b2⟩:=zy ds vs x2 q.2 fun e he=>z e (List.mem_cons_of_mem _ he)
  have kA:∀b∈A,b∈A++B:=fun b hb=>List.mem_append.mpr (.inl hb)
  have kB:∀b∈B,b∈A++B:=fun b hb=>List.mem_append.mpr (.inr hb)
  refine⟨A++B,fun u hu=>?_,fun b hb=>?_⟩
  ·rcases List.mem_cons.mp hu with e|m
   ·rw[e]
    exact a1.mono kA
   ·exact(b1 u m).mono kB
  ·rcases List.mem_append.mp hb with m|m
   ·exact(a2 b m).mono kA
   ·exact(b2 b m).mono kB
end
end
def Bw(o:Obj):Option HO:=match o.data with
 | .seq vs _=>if(o.cls==Value.type "list")=true then some (.fH o (.lst (vs.toList.map toV))) else some (.fH o (.tup (vs.toList.map toV)))
 |_=>none
def fG(K:PySem.W.Frag)(h:Heap)(A:List Addr):Hp:=fun b=>if b∈A then(if(K.lookup b).isNone=true then(h.get? b).bind Bw else none) else none
def u0(H:Hp):Prop:=∀b,H b=none∨∃o u,H b=some (.fH o u)
theorem Yg(vs:List Value):Bw {cls:=.type "list",data:=.seq vs.toArray}=some (.fH {cls:=.type "list",data:=.seq vs.toArray} (.lst (vs.map toV))):=by
 show(if(Value.type "list"==Value.type "list")=true then some (HO.fH {cls:=.type "list",data:=.seq vs.toArray} (.lst (vs.toArray.toList.map toV))) else some (HO.fH {cls:=.type "list",data:=.seq vs.toArray} (.tup (vs.toArray.toList.map toV))))=_
 rw[if_pos (beq_self_eq_true _)]
theorem Yh(vs:List Value):Bw {cls:=.type "tuple",data:=.seq vs.toArray}=some (.fH {cls:=.type "tuple",data:=.seq vs.toArray} (.tup (vs.map toV))):=by
 show(if(Value.type "tuple"==Value.type "list")=true then some (HO.fH {cls:=.type "tuple",data:=.seq vs.toArray} (.lst (vs.toArray.toList.map toV))) else some (HO.fH {cls:=.type "tuple",data:=.seq vs.toArray} (.tup (vs.toArray.toList.map toV))))=_
 rw[if_neg (by decide)]
section
variable{P:Program}{w:World}{K:PySem.W.Frag}{h:Heap}{A:List Addr}
theorem zU{b:Addr}{o:Obj}(hb:b∈A)(hk:K.lookup b=none)(e:h.get? b=some o):fG K h A b=Bw o:=by
 unfold fG
 rw[if_pos hb,hk,if_pos (show(none:Option Obj).isNone=true from rfl),e]<;>rfl
theorem aiz{b:Addr}{u:HO}(q:fG K h A b=some u):b∈A∧K.lookup b=none:=by
 unfold fG at q
 by_cases hb:b∈A
 ·rw[if_pos hb] at q
  cases hk:K.lookup b with
  |none=>exact⟨hb,rfl⟩
  |some o=>
   rw[hk,if_neg (by simp)] at q
   cases q
 ·rw[if_neg hb] at q
  cases q
theorem zV(ar:∀a∈A,jr h A a){b:Addr}{u:HO}(q:fG K h A b=some u):K.lookup b=none∧∃vs:List Value,vs.length≤sizeLine∧(∀u∈vs,jd A u)∧
 ((h.get? b=some {cls:=.type "list",data:=.seq vs.toArray}∧u= .fH {cls:=.type "list",data:=.seq vs.toArray} (.lst (vs.map toV)))∨
  (h.get? b=some {cls:=.type "tuple",data:=.seq vs.toArray}∧u= .fH {cls:=.type "tuple",data:=.seq vs.toArray} (.tup (vs.map toV)))):=by
 obtain⟨hb,hk⟩:=aiz q
 obtain⟨vs,h1,h2,h3⟩:=ar b hb
 refine⟨hk,vs,h1,h2,?_⟩
 rcases h3 with e|e
 ·rw[zU hb hk e,Yg] at q
  exact .inl ⟨e,(Option.some.inj q).symm⟩
 ·rw[zU hb hk e,Yh] at q
  exact .inr ⟨e,(Option.some.inj q).symm⟩
theorem ago(ar:∀a∈A,jr h A a):u0 (fG K h A):=fun b=>by
 cases q:fG K h A b with
 |none=>exact .inl rfl
 |some u=>
  obtain⟨_,vs,_,_,⟨_,e⟩|⟨_,e⟩⟩:=zV ar q
  ·exact .inr ⟨_,_,by rw[e]⟩
  ·exact .inr ⟨_,_,by rw[e]⟩
theorem aiA(ar:∀a∈A,jr h A a):cI P w (fG K h A) h:=fun b u q=>by
 obtain⟨_,vs,h1,h2,⟨e,rfl⟩|⟨e,rfl⟩⟩:=zV ar q
 ·exact⟨e,by rw[List.length_map];exact h1,vs,_,qO h2,e⟩
 ·exact⟨e,by rw[List.length_map];exact h1,vs,qO h2,_,e,rfl,_,rfl⟩
theorem zW{c c':Value}{vs us:List Value}(e:(some {cls:=c,data:=.seq vs.toArray}:Option Obj)=some {cls:=c',data:=.seq us.toArray}):c=c'∧vs=us:=by
 have e1:=Option.some.inj e
 have e2:c=c':=congrArg Obj.cls e1
 have e3:Data.seq vs.toArray=Data.seq us.toArray:=congrArg Obj.data e1
 injection e3 with e4
 refine⟨e2,?_⟩
 have e5:=congrArg Array.toList e4
 simpa using e5
theorem ak8(KX:K.In h)(ar:∀a∈A,jr h A a){a:Addr}{vs:List Value}(ha:a∈A)(e:h.get? a=some {cls:=.type "list",data:=.seq vs.toArray}):(∀u∈vs,jd A u)∧au K (fG K h A) a (vs.map toV):=by
 obtain⟨us,h1,h2,h3⟩:=ar a ha
 have hu:us=vs:=by
  rcases h3 with q|q
  ·rw[e] at q
   exact(zW q).2.symm
  ·rw[e] at q
   exact absurd (Value.type.inj (zW q).1) (by decide)
 subst hu
 refine⟨h2,?_⟩
 cases hk:K.lookup a with
 |none=>exact .inl (.inr ⟨_,by rw[zU ha hk e,Yg]⟩)
 |some o=>
  have e2:=KX a o hk
  rw[e] at e2
  obtain rfl:=Option.some.inj e2
  exact .inr ⟨_,us.toArray,_,hk,rfl,rfl,rfl,by rw[List.size_toArray];exact h1,by simpa using qO h2⟩
theorem ak9(KX:K.In h)(ar:∀a∈A,jr h A a){a:Addr}{vs:List Value}(ha:a∈A)(e:h.get? a=some {cls:=.type "tuple",data:=.seq vs.toArray}):(∀u∈vs,jd A u)∧bK K (fG K h A) a (vs.map toV):=by
 obtain⟨us,h1,h2,h3⟩:=ar a ha
 have hu:us=vs:=by
  rcases h3 with q|q
  ·rw[e] at q
   exact absurd (Value.type.inj (zW q).1) (by decide)
  ·rw[e] at q
   exact(zW q).2.symm
 subst hu
 refine⟨h2,?_⟩
 cases hk:K.lookup a with
 |none=>exact .inl (.inr ⟨_,by rw[zU ha hk e,Yh]⟩)
 |some o=>
  have e2:=KX a o hk
  rw[e] at e2
  obtain rfl:=Option.some.inj e2
  exact .inr ⟨_,us.toArray,_,hk,rfl,rfl,by rw[List.size_toArray];exact h1,by simpa using qO h2⟩
mutual
theorem ajO{Pm:Params}(KX:K.In h)(ar:∀a∈A,jr h A a):∀(d:WData) (v:Value),Well Pm h v d→iI d=true→jd A v→Dw K (fG K h A) (toV v) d
 | .none,_,x,_,_=>by
   cases x
   exact .non
 | .bool b,_,x,_,_=>by
   cases x
   exact .bl b
 | .int i,_,x,_,_=>by
   cases x
   exact .int i
 | .str s,_,x,_,_=>by
   cases x
   exact .str s
 | .bytes b,_,x,_,_=>by
   cases x
   have z:=Dw.gB (K:=K) (H:=fG K h A) b.toArray
   exact z
 | .list ds,_,x,p,hu=>by
   obtain⟨a,vs,rfl,ho,hall⟩:=W4 x
   obtain⟨h2,hs⟩:=ak8 KX ar hu ho
   exact .lst hs (Ai KX ar ds _ hall p h2)
 | .tuple ds,_,x,p,hu=>by
   obtain⟨a,vs,rfl,ho,hall⟩:=VF x
   obtain⟨h2,hs⟩:=ak9 KX ar hu ho
   exact .tup hs (Ai KX ar ds _ hall p h2)
 | .float _,_,_,p,_=>Bool.noConfusion (show false=true from p)
 | .dict _,_,_,p,_=>Bool.noConfusion (show false=true from p)
 | .bytearray _,_,_,p,_=>Bool.noConfusion (show false=true from p)
 | .set _,_,_,p,_=>Bool.noConfusion (show false=true from p)
 | .frozenset _,_,_,p,_=>Bool.noConfusion (show false=true from p)
 | .obj _ _,_,_,p,_=>Bool.noConfusion (show false=true from p)
theorem Ai{Pm:Params}(KX:K.In h)(ar:∀a∈A,jr h A a):∀(ds:List WData) (vs:List Value),WellAll Pm h vs ds→jy ds=true→(∀u∈vs,jd A u)→jq K (fG K h A) (vs.map toV) ds
 | [],_,x,_,_=>by
   cases x
   exact .nil
 |d::ds,_,x,p,hu=>by
  obtain⟨v,vs,rfl,x1,x2⟩:=W5 x
  have q:iI d=true∧jy ds=true:=Bool.and_eq_true_iff.mp p
  exact .cons (ajO KX ar d v x1 q.1 (hu _ (List.mem_cons_self ..))) (Ai KX ar ds vs x2 q.2 fun u m=>hu u (List.mem_cons_of_mem _ m))
end
end
theorem agp{P:Program}{w:World}{K:PySem.W.Frag}{mg mb:Str→Option Value}{CX:jC}{k:Nat}{fa:Addr}{fd:FuncData}{ps:List Str}{sp:Sp}{s₁:Shared}{vals:List Value}{ds:List WData}{R:PySem.W.WRecords}{cl:Str→Option Addr}{d0:WData}
 (KX:K.In s₁.heap)(hns:s₁.heap.Ns mainGlobals mg)(hb:s₁.heap.Ns builtinsNs mb)(hbb:∀x:Str,x≠"__name__"→mb x=bootBuiltins x)(hlim:s₁.heap.NoLimit)(hg:s₁.gens= #[])
 (hwl:WellAll w.params s₁.heap vals ds)(hpl:jy ds=true)(hwt:∀d∈ds,d.weight≤1048576)(hr:cO k callerA)
 (F:∀base:Heap,K.In base→base.Ns mainGlobals mg→iC P w K mg base CX k fa fd ps sp)(hbind:∀(s:Shared) (us:List Value),us.length=ps.length→BindsTo s fd ⟨us,[]⟩ (ps.zip us))(hlen:ds.length=ps.length)
 (hsp:∀(H:Hp) (xs:List V),u0 H→jq K H xs ds→sp xs H (fun v H'=>Dw K H' v d0) fun _ _ _=>False)
 (vJ:∀H e s',CX [] H s₁ (fun _ _ _=>False) e s'→False):
 codeAny (model P w) callerA (.call (.ref fa) ⟨vals,[]⟩) (fun r s'=>∃u as,r= .ok (.ret u)∧ReadsW R cl s'.heap u d0 as∧OldK s₁.heap s'.heap∧s'.os=s₁.os∧AllBare s'.gens) s₁:=by
 obtain⟨A,ho,ar⟩:=zy ds vals hwl hpl hwt
 have hO:u0 (fG K s₁.heap A):=ago ar
 have hok:cI P w (fG K s₁.heap A) s₁.heap:=aiA ar
 have hS:=Ai KX ar ds vals hwl hpl ho
 have hV:=qO ho
 have hK:∀b u,fG K s₁.heap A b=some u→K.lookup b=none:=fun b u q=>(zV ar q).1
 have sS:∀{b:Addr} {o:Obj} {es:Array DictEntry} {ep:Nat},s₁.heap.get? b=some o→o.data= .dict es ep→fG K s₁.heap A b=none:=fun {b o es ep} e d=>by
  cases q:fG K s₁.heap A b with
  |none=>rfl
  |some u=>
   obtain⟨_,vs,_,_,⟨e2,_⟩|⟨e2,_⟩⟩:=zV ar q
   ·rw[e2] at e
    cases e
    have d':Data.seq vs.toArray _=Data.dict es ep:=d
    cases d'
   ·rw[e2] at e
    cases e
    have d':Data.seq vs.toArray _=Data.dict es ep:=d
    cases d'
 generalize fG K s₁.heap A=H at hO hok hS hK sS
 have Zm:∀{b:Addr} {o:Obj},s₁.heap.get? b=some o→H b=none→(mF s₁.heap H).get? b=some o:=fun e n=>ahb e n
 have Cw:∀{b:Addr} {m:Str→Option Value},s₁.heap.Ns b m→(mF s₁.heap H).Ns b m:=fun {b m} ⟨o,es,ep,e,d,r⟩=>⟨o,es,ep,Zm e (sS e d),d,r⟩
 have nK:∀b o,K.lookup b=some o→H b=none:=fun b o e=>by
  cases q:H b with
  |none=>rfl
  |some u=>
   rw[hK b u q] at e
   cases e
 have hKb:K.In (mF s₁.heap H):=fun b o e=>Zm (KX b o e) (nK b o e)
 have hM:Mod K mg (mF s₁.heap H):=⟨hKb,Cw hns,⟨mb,Cw hb,hbb⟩,let ⟨mc,h1,h2⟩:=hlim;⟨mc,Cw h1,h2⟩⟩
 have e0:pJ P w K mg (mF s₁.heap H) callerA [] s₁ H:=⟨rfl,hM,fun b o e=>aii e,Nat.le_of_eq (agc _ _),trivial,fun b hb=>absurd (show b∈([]:List Addr) from hb) (by simp),hok,.of_eq hg⟩
 have hl:vals.length=ps.length:=by rw[yG hwl];exact hlen
 refine codeAny_mono ((F _ hKb (Cw hns)).run callerA [] s₁ H ⟨vals,[]⟩ vals (vals.map toV) _ _ hr e0 (hbind s₁ vals hl) hV (hsp H _ hO hS)) fun r s' x=>?_
 cases r with
 |error e=>exact(vJ H e s' x).elim
 |ok fl=>
  cases fl with
  |next=>exact False.elim x
  |brk=>exact False.elim x
  |cont=>exact False.elim x
  |ret u=>
   obtain⟨v,H',os,bare,un,hok',r',q⟩:=x
   have kept:∀b o,s₁.heap.get? b=some o→s'.heap.get? b=some o:=fun b o e=>by
    cases q2:H b with
    |none=>exact un.keep b o e q2 (by intro z;exact absurd (show b∈([]:List Addr) from z) (by simp)) (by simp)
    |some u2=>
     rcases hO b with z|⟨ob,u3,z⟩
     ·rw[q2] at z
      cases z
     ·have z2:=un.mD b ob _ z
      obtain⟨e1,_⟩:=hok b _ z
      obtain⟨e2,_⟩:=hok' b _ z2
      rw[e] at e1
      cases e1
      exact e2
   have KX':K.In s'.heap:=fun b o e=>kept b o (KX b o e)
   obtain⟨as,hrd⟩:=Dw.reads (R:=R) (cl:=cl) hok' KX' d0 v u q r'
   exact⟨u,as,rfl,hrd,OldK.of_keep kept,os,bare⟩
theorem acW{ds:List WData}(h:WData.layableAll ds=true):∀d∈ds,d.weight≤1048576:=fun d hd=>
 (PySem.W.layableW_iff.mp (List.all_eq_true.mp h d hd)).2.2
theorem VG:∀(cs:List Codec) (a:Codec.denoteAll cs),(Codec.encAll cs a).length=cs.length
 | [],_=>rfl
 |c::cs,a=>by
  show(Codec.encAll cs a.2).length+1=cs.length+1
  rw[VG cs a.2]
theorem agq{r:OpenSpec}{k:Nat}{q:Program}{loose:List Str}{XP:(Str→Option Value)→Heap→Prop}{YP:World→Heap→Prop}{d:DefRec}{K:Params→PySem.W.Frag}{CX:World→jC}{ps:List Str}{sp:World→Sp}
 (rM:r.wellSaid=true)(hdf:d.params.defaults=[])(hlen:r.args.length=ps.length)(hr:cO k callerA)
 (hY:∀(w:World) (h:Heap),YP w h→(K w.params).In h)
 (F:∀(w:World) (mg:Str→Option Value) (fa:Addr) (h:Heap),YP w h→(K w.params).In h→h.Ns mainGlobals mg→mg d.name=some (.ref fa)→
   ∃fd:FuncData,(∀(s:Shared) (us:List Value),us.length=ps.length→BindsTo s fd ⟨us,[]⟩ (ps.zip us))∧
    ∀base:Heap,(K w.params).In base→base.Ns mainGlobals mg→iC r.prog w (K w.params) mg base (CX w) k fa fd ps (sp w))
 (hsp:∀(w:World) (H:Hp) (xs:List V) (a:Codec.denoteAll r.args),u0 H→Codec.withinAll r.args a=true→Codec.app r.args r.asked a=true→jq (K w.params) H xs (Codec.encAll r.args a)→
   sp w xs H (fun v H'=>Dw (K w.params) H' v (r.ret.enc (Codec.app r.args r.f a))) fun _ _ _=>False)
 (vJ:∀(w:World) (H:Hp) (s:Shared) (e:Value) (s':Shared),CX w [] H s (fun _ _ _=>False) e s'→False):
 PySem.W.WalkOS q loose XP YP r d [] (fun f vs=>PySem.call f vs):=by
 intro w s_0 s₁ mg mb G Y fa o pm cd doc dV kV ho hd hcd hD hmg hg args vals as hpre hlay hrd hwl hlo
 obtain⟨a,e1,e2⟩:=PySem.W.os_pre_some hpre
 obtain⟨e3,hwi⟩:=Codec.encAll_of_decAll r.args args a e1
 subst e3
 have KX:=hY w _ Y
 obtain⟨fd,hb,hF⟩:=F w mg fa _ Y KX G.T.g hmg
 refine PySem.W.enter_call (codeAny_mono (agp (R:=[]) (cl:=classAt s_0.heap) (d0:=r.ret.enc (Codec.app r.args r.f a)) KX G.T.g G.T.b G.T.builtins G.T.nolimit hg hwl (W3 _ _) (acW hlay) hr hF hb (by rw[VG];exact hlen)
  (fun H xs hO hS=>hsp w H xs a hO hwi e2 hS) fun H e s'=>vJ w H s₁ e s') fun r' s' hq=>?_)
 obtain⟨u,as',rfl,h1,h2,h3,h4⟩:=hq
 exact⟨.inl ⟨u,_,as',rfl,fun _=>rfl,h1,(OpenSpec.post_iff rM hwi _ _).mpr rfl,fun z=>Bool.noConfusion (show false=true from z)⟩,h2,h3,h4⟩
theorem afg{r:OpenSpec}{k:Nat}{q:Program}{loose:List Str}{XP:(Str→Option Value)→Heap→Prop}{YP:World→Heap→Prop}{d:DefRec}{K:Params→PySem.W.Frag}{CX:jC}{ps:List Str}{sp:PySem.W.Frag→Sp}
 (rM:r.wellSaid=true)(hdf:d.params.defaults=[])(hlen:r.args.length=ps.length)(hr:cO k callerA)
 (hY:∀(w:World) (h:Heap),YP w h→(K w.params).In h)
 (F:∀(w:World) (mg:Str→Option Value) (fa:Addr) (h:Heap),YP w h→(K w.params).In h→h.Ns mainGlobals mg→mg d.name=some (.ref fa)→
   ∃fd:FuncData,(∀(s:Shared) (us:List Value),us.length=ps.length→BindsTo s fd ⟨us,[]⟩ (ps.zip us))∧
    ∀base:Heap,(K w.params).In base→base.Ns mainGlobals mg→iC r.prog w (K w.params) mg base CX k fa fd ps (sp (K w.params)))
 (hsp:∀(K:PySem.W.Frag) (H:Hp) (xs:List V) (a:Codec.denoteAll r.args),u0 H→Codec.withinAll r.args a=true→Codec.app r.args r.asked a=true→jq K H xs (Codec.encAll r.args a)→
   sp K xs H (fun v H'=>Dw K H' v (r.ret.enc (Codec.app r.args r.f a))) fun _ _ _=>False)
 (vJ:∀(H:Hp) (s:Shared) (e:Value) (s':Shared),CX [] H s (fun _ _ _=>False) e s'→False):
 PySem.W.WalkOS q loose XP YP r d [] (fun f vs=>PySem.call f vs):=
 agq (K:=K) (CX:=fun _=>CX) (sp:=fun w=>sp (K w.params)) rM hdf hlen hr hY F (fun w H xs a h1 h2 h3 h4=>hsp (K w.params) H xs a h1 h2 h3 h4) fun _ H s e s'=>vJ H s e s'
end L2
end
namespace R
open PySem PySem.Spec PyProof.Rows L2
def top(i:Nat):Stmt:=PySem.Challenge.pw_rungpasses_s01_answers.main.body.getD i (.Pass ⟨0,0,0,0⟩)
def Ce(P:Program)(w:World)(K:PySem.W.Frag)(mg:Str→Option Value)(base:Heap)(k:Nat)(x:Str)(ps:List Str)(sp:Sp):Prop:=
 ∃(f:Addr) (fd:FuncData),iC P w K mg base jc k f fd ps sp∧mg x=some (.ref f)∧PySem.W.keepIn K (.ref f)=true∧Binds K fd ps []
def Df(K:PySem.W.Frag)(mg:Str→Option Value)(x qual:Str)(st:Stmt):Prop:=∃(f:Addr) (fd:FuncData),fu K x qual st f fd∧mg x=some (.ref f)
def Cm(P:Program)(w:World)(K:PySem.W.Frag)(mg:Str→Option Value)(base:Heap)(k:Nat)(x:Str)(sp:List V→Hp→VK→Prop):Prop:=
 ∃(C f:Addr) (fd:FuncData) (ps:List Str) (Cy:Sp),Mk K C f∧iC P w K mg base jc k f fd ps Cy∧mg x=some (.ref C)∧Binds K fd ps []∧
  ∀vs H Q,sp vs H Q→∀x dx,H x=none→H dx=none→dx≠x→Cy (.ref x::vs) (upd (upd H dx (.own x)) x (.ins C dx [])) (fun v H2=>v= .non∧Q (.ref x) H2) E0
def Ct(P:Program)(w:World)(K:PySem.W.Frag)(mg:Str→Option Value)(base:Heap)(k:Nat)(C:Addr)(m:Str)(sp:Sp):Prop:=
 ∃(f:Addr) (fd:FuncData) (ps:List Str),Cls K C∧Meth K C m f∧iC P w K mg base jc k f fd ps sp∧Binds K fd ps []
def aU(sp:Sp)(t:TA):TE:=fun σ H Q=>t σ H fun vs H1=>sp vs H1 Q E0
def jW(sp:List V→Hp→VK→Prop)(t:TA):TE:=fun σ H Q=>t σ H fun vs H1=>sp vs H1 Q
def jD(C:Addr)(m:Str)(sp:Sp)(to:TE)(t:TA):TE:=fun σ H Q=>to σ H fun x H1=>(∃a dx fs,x= .ref a∧H1 a=some (.ins C dx fs)∧fs.lookup m=none)∧t σ H1 fun vs H2=>sp (x::vs) H2 Q E0
def rJoin(K:PySem.W.Frag):V→List V→Hp→VK→Prop:=fun x xs H Q=>∃a p,∃ys:List Str,x= .str a∧xs=[.ref p]∧(au K H p (ys.map V.str)∨bK K H p (ys.map V.str))∧(ys.map (·.length)).sum+ys.length*a.length≤16777216∧Q (.str (Txt.join a ys)) H
theorem yV:bootBuiltins "all"=some (.builtin "all"):=by decide+kernel
theorem W6:bootBuiltins "sum"=some (.builtin "sum"):=by decide+kernel
theorem Uc:bootBuiltins "sorted"=some (.builtin "sorted"):=by decide+kernel
theorem yW:bootBuiltins "int"=some (.type "int"):=by decide+kernel
theorem VH:bootBuiltins "list"=some (.type "list"):=by decide+kernel
section
variable{X:Cx}{k j:Nat}{x:Str}{ps:List Str}{sp:Sp}{e:Expr}{es:List Expr}{t:TA}{p pos:Pos}
theorem bL{v:V}(hg:Gl X x)(hm:∃u,X.mg x=some u∧RelV v u)(hd:(x==("__debug__":Str))=false:=by decide):PE X (.Name x pos) (tC v):=by
 obtain⟨u,h1,h2⟩:=hm
 exact aij hg h1 h2 hd
theorem afh(Q:VK):(fun(vs:List V) (H1:Hp)=>sp (vs++[]) H1 Q E0)=fun vs H1=>sp vs H1 Q E0:=by funext vs H1;rw[List.append_nil]
theorem aV(C:Ce X.prog X.w X.K X.mg X.base k x ps sp)(hr:cO j X.A)(ha:PA X (e::es) t)(hk:k≤j:=by decide)(hg:Gl X x:=by rfl)(hdb:(x==("__debug__":Str))=false:=by decide)
 (hst:starEach (e::es) X.env=(false,eval e X.env)::starEach es X.env:=by rfl)(hpl:(backTo pos (starEach es X.env)).any (·.1)=false:=by rfl):PE X (.Call (.Name x p) (e::es) [] pos) (aU sp t):=by
 obtain⟨f,fd,F,hm,kp,b⟩:=C
 have h:=aip (gD:=[]) (E:=E0) (p:=p) (pos:=pos) F (hr.mono hk) hg hm kp b .nil uZ ha hdb hst hpl
 intro pins s σ H Q I q
 refine h pins s σ H Q I ?_
 show t σ H (fun vs H1=>sp (vs++[]) H1 Q E0)
 rw[afh]
 exact q
theorem pG{oA:List V→Hp→VK→Prop}(C:Cm X.prog X.w X.K X.mg X.base k x oA)(hr:cO j X.A)(ha:PA X (e::es) t)(hk:k+1≤j:=by decide)(hg:Gl X x:=by rfl)(hdb:(x==("__debug__":Str))=false:=by decide)
 (hst:starEach (e::es) X.env=(false,eval e X.env)::starEach es X.env:=by rfl)(hpl:(backTo pos (starEach es X.env)).any (·.1)=false:=by rfl):PE X (.Call (.Name x p) (e::es) [] pos) (jW oA t):=by
 obtain⟨C,f,fd,ps,Cy,M,F,hm,b,hsp⟩:=C
 intro pins s σ H Q I h
 refine wpAny_Call_Name_kw (zM I hg hm ?_ hdb)
 refine PySem.W.callWith_K (h₀:=X.base) I.ok.mod.vq M.kp (aN (ha pos pins s σ H _ I h) fun us s1 ⟨vs,H1,I1,r,q⟩=>⟨I1.gQ,?_⟩) hst hpl
 exact X3 (gD:=[]) (E:=E0) M F (hr.mono hk) b .nil uZ I1 r fun y dx h1 h2 h3=>(by rw[List.append_nil];exact hsp vs H1 Q q y dx h1 h2 h3)
theorem ajP{oA:List V→Hp→VK→Prop}(C:Cm X.prog X.w X.K X.mg X.base k x oA)(hr:cO j X.A)(hk:k+1≤j:=by decide)(hg:Gl X x:=by rfl)(hdb:(x==("__debug__":Str))=false:=by decide):PE X (.Call (.Name x p) [] [] pos) (jW oA aq):=by
 obtain⟨C,f,fd,ps,Cy,M,F,hm,b,hsp⟩:=C
 intro pins s σ H Q I h
 refine wpAny_Call_Name_kw (zM I hg hm ?_ hdb)
 exact PySem.W.callWith_K0 I.gQ M.kp (X3 (us:=[]) (gD:=[]) (E:=E0) M F (hr.mono hk) b .nil uZ I .nil fun y dx h1 h2 h3=>hsp [] H Q h y dx h1 h2 h3)
theorem kI{C:Addr}{m:Str}{o:Expr}{ta:TE}{apos:Pos}{pl:Sem Bool}(he:PE X o ta)(c:Ct X.prog X.w X.K X.mg X.base k C m sp)(hr:cO j X.A)(hk:k≤j:=by decide)
 (ht:eval (.Call (.Attribute o m apos) [] [] pos) X.env=(do
   let ov←eval o X.env
   standAt apos.atName
   let (f,first)←holding [ov] (getMethod ov m pl)
   callWith pos f first (backTo pos (starEach [] X.env)) (backToKw pos (keywordEach [] X.env))):=by rfl):
 PE X (.Call (.Attribute o m apos) [] [] pos) (jD C m sp ta aq):=by
 obtain⟨f,fd,ps,cl,M,F,b⟩:=c
 intro pins s σ H Q I h
 refine PySem.W.methodCall_KW (pl:=pl) (aN (he pins s σ H _ I h) fun u s1 ⟨x,H1,I1,rx,⟨a,dx,fs,ex,ea,l⟩,q⟩=>?_) ht
 subst ex
 obtain rfl:u=Value.ref a:=rx
 refine ae9 I1 ea cl M l ?_
 exact PySem.W.callWith_K0 (first:=[.ref a]) I1.gQ M.kp (Mr (us:=[.ref a]) (vs:=[.ref a]) (gD:=[]) (E:=E0) F (hr.mono hk) b .nil uZ I1 (.cons rfl .nil) q)
theorem ahq:aaV X (cB X.K):=by
 intro pins s σ H o i ov iv Q I ro ri h
 obtain⟨p,xs,i,z,rfl,rfl,hq,he,q⟩:=h
 cases ro
 obtain⟨t,rfl⟩:=ri
 obtain⟨its,r,pl,hz⟩:=I.list hq
 obtain⟨j,h1,h2,h3,h4,h5⟩:=zP he
 obtain⟨w,ew,jV⟩:=r.get h2
 have hl:=r.length
 have hn:=pB
 have fin:EP X pins σ Q w s:=⟨z,H,I,jV,q⟩
 by_cases h0:0≤i
 ·have hj:i.toNat=j:=by
   rw[seqIndex_of h0 h5] at h1
   exact Option.some.inj h1
  exact wpAny_getItem_list pl.isList h0 (by omega) (by rw[hj];simpa using ew) fin
 ·have hj:(i+(its.toArray.size:Int)).toNat=j:=by
   rw[seqIndex_neg (by omega) h4] at h1
   rw[List.size_toArray,←hl]
   exact Option.some.inj h1
  exact wpAny_getItem_list_neg pl.isList (by omega) (by rw[List.size_toArray]<;>omega) (by omega) (by rw[hj];simpa using ew) fin
def Ks(K:PySem.W.Frag):List V→Hp→VK→Prop:=fun vs H Q=>∃(a:Addr) (ns:List Int),vs=[V.ref a]∧au K H a (ns.map V.int)∧
 ∀(ns':List Int) (p:Addr),ns'.Perm ns→ns'.Pairwise (· ≤ ·)→H p=none→Q (.ref p) (upd H p (.lst (ns'.map V.int)))
theorem afi:kO X (.builtin "sorted") (Ks X.K):=by
 intro pins s σ H vs us Q I r h
 obtain⟨a,ns,rfl,hs,q⟩:=h
 obtain⟨its,rv,hl,hz⟩:=I.list hs
 rw[Vals.vf r]
 have hi:=rv.ints
 have hlen:=rv.length
 rw[List.length_map] at hz hlen
 refine PyProof.Rows.sorted_intsAny hl.isList hi (by omega) fun out ns' h1 h2 h3=>?_
 obtain⟨ep,he'⟩:=PyProof.Rows.sortedAll_at s.heap its out
 have hlen:(ns'.map V.int).length≤sizeLine:=by rw[List.length_map,h2.length_eq];exact hz
 exact⟨.ref _,upd H (s.heap.objs.size+1) (.lst (ns'.map V.int)),I.laid (t':=s.toks) (fun _ _=>PyProof.Rows.sortedAll_old) (Nat.le_succ _) ⟨hlen,out.toList,ep,Hg h1,he'⟩,rfl,q ns' _ h2 h3 (I.hok.fresh (Nat.le_succ _))⟩
def upto(n:Nat):List Int:=(List.range n).map fun(i:Nat)=>(i:Int)
def qF(t:TA):TE:=fun σ H Q=>t σ H fun vs H1=>∃n:Nat,vs=[.int n]∧n≤1048576∧∀p,H1 p=none→Q (.ref p) (upd H1 p (.lst ((upto n).map V.int)))
theorem Ld:∀{xs:List V} {us:List Value},xs.length=us.length→(∀(i:Nat) (x:V) (u:Value),xs[i]? =some x→us[i]? =some u→RelV x u)→Vals xs us
 | [],[],_,_=>.nil
 | [],_::_,h,_=>by simp at h
 |_::_,[],h,_=>by simp at h
 |x::xs,u::us,h,f=>.cons (f 0 x u rfl rfl) (Ld (by simpa using h) fun i y v h1 h2=>f (i+1) y v (by simpa using h1) (by simpa using h2))
theorem afj{n:Nat}{acc:Array Value}(h:ItemsOf (fun i v=>∃t,v=Value.int (0+i*1) t) acc n):Vals ((upto n).map V.int) acc.toList:=by
 obtain⟨h1,h2⟩:=h
 refine Ld (by simp[upto,h1]) fun i x u e1 e2=>?_
 obtain⟨t,e⟩:=h2 i u (by simpa using e2)
 have hi:i<n:=by
  have:=(List.getElem?_eq_some_iff.mp e1).1
  simpa [upto] using this
 have ex:x=V.int (i:Int):=by
  simp[upto,hi] at e1
  exact e1.symm
 rw[ex]
 refine⟨t,?_⟩
 rw[e]
 simp
theorem Hi{a:Expr}{ta:TA}{p p1 pos1 pos2:Pos}(hcalm:X.calm=true)(hg:Gl X "list")(hm:X.mg "list"=none)(hg2:Gl X "range")(hm2:X.mg "range"=none)(ha:PA X [a] ta)(hs:starEach [a] X.env=[(false,eval a X.env)]:=by rfl)
 (hs2:starEach [.Call (.Name "range" p1) [a] [] pos1] X.env=[(false,eval (.Call (.Name "range" p1) [a] [] pos1) X.env)]:=by rfl):PE X (.Call (.Name "list" p) [.Call (.Name "range" p1) [a] [] pos1] [] pos2) (qF ta):=by
 intro pins s σ H Q I h
 refine wpAny_Call_Name_kw (lW I hg hm VH ?_)
 refine PyProof.Rows.callWith_type1 ?_ hs2 rfl
 rw[hs2]
 show wpAny _ _ (spliced ((false,eval (.Call (.Name "range" p1) [a] [] pos1) X.env)::[])) _ _ s
 refine Calls.spliced_cons ?_
 refine Call_ (lW I hg2 hm2 boot_range (PyProof.Rows.callWith_type1 (aN (ha pos1 pins s σ H _ I h) fun us s1 ⟨vs,H1,I1,r1,q1⟩=>?_) hs rfl))
 obtain⟨n,ev,hn,q⟩:=q1
 subst ev
 obtain⟨u,rfl,t,rfl⟩:=vals1 r1
 refine call_range_1 ?_
 refine Calls.spliced_nil ?_
 refine call_list_range (n:=n) (I1.ok.hd hcalm) (IsRange.new ..) (small_one (by omega) (by omega) (by omega) (by omega)) (by rw[rangeSize_one];split<;>omega) (by omega) fun h' tk acc' c' hk hS hacc=>?_
 have I2:Inv X pins σ H1 {s1 with heap:=s1.heap.push {cls:=.type "range",data:=.fields #[.int 0 s1.toks,.int n t,.int 1 (s1.toks+1)]},toks:=s1.toks+1+1}:=I1.kept (t':=s1.toks+1+1) fun b o e=>Heap.get?_push_of_some _ e
 refine⟨.ref _,_,I2.laid (t':=tk) (o:=.lst ((upto n).map V.int)) hk (Nat.le_refl _) ?_,rfl,q _ (I2.hok.fresh (Nat.le_refl _))⟩
 refine⟨?_,acc'.toList,c',afj hacc,?_⟩
 ·simp only[upto,List.length_map,List.length_range,sizeLine_eq]
  omega
 ·simpa using hS
def bV{α:Type}:List α→List α
 | []=>[]
 | [a]=>[a]
 |a::_::r=>a::bV r
theorem qG{α:Type}:∀l:List α,(bV l).length=(l.length+1) / 2
 | []=>by simp[bV]
 | [_]=>by simp[bV]
 |_::_::r=>by
  simp only[bV,List.length_cons,qG r]
  omega
theorem Jc{α:Type}:∀(l:List α) (k:Nat),(bV l)[k]? =l[2*k]?
 | [],k=>by simp[bV]
 | [a],0=>rfl
 | [a],k+1=>by simp[bV]
 |a::b::r,0=>rfl
 |a::b::r,k+1=>by
  have e:2*(k+1)=2*k+1+1:=by omega
  rw[e]
  simp only[bV,List.getElem?_cons_succ,Jc r k]
theorem Rh{α:Type}(f:Nat→Option α):∀(n:Nat) (l:List α),l.length=n→(∀k,k<n→f k=l[k]?)→(List.range n).filterMap f=l
 |0,l,h,_=>by
  cases l
  ·rfl
  ·simp at h
 |n+1,l,h,g=>by
  obtain⟨m,a,rfl⟩:∃m a,l=m++[a]:=by
   refine⟨l.dropLast,l.getLast (by intro e;subst e;simp at h),?_⟩
   exact(List.dropLast_concat_getLast _).symm
  have hm:m.length=n:=by simpa using h
  rw[List.range_succ,List.filterMap_append,Rh f n m hm fun k hk=>by
   rw[g k (by omega),List.getElem?_append_left (by omega)]]
  have e:=g n (by omega)
  rw[List.getElem?_append_right (by omega),hm,Nat.sub_self] at e
  simp[e]
theorem akD(its:List Value)(n:Nat):slicePick its.toArray (some (n:Int)) none (some 2)=(bV (its.drop n)).toArray:=by
 unfold slicePick sliceBounds sliceRange
 simp only[Option.getD_some,show(2:Int)>0 by decide,if_true,List.size_toArray]
 congr 1
 rw[List.filterMap_map]
 have c1:(if(n:Int)<0 then(n:Int)+(its.length:Int) else(n:Int))=(n:Int):=by rw[if_neg (by omega)]
 rw[c1]
 have c2:max 0 (min (n:Int) (its.length:Int))=((min n its.length:Nat):Int):=by omega
 rw[c2]
 have hc:(if((min n its.length:Nat):Int)<(its.length:Int) then((its.length:Int) - ((min n its.length:Nat):Int)+2 - 1) / 2 else 0).toNat=(bV (its.drop n)).length:=by
  rw[qG,List.length_drop]
  split<;>omega
 rw[hc]
 refine Rh _ _ _ rfl fun k hk=>?_
 rw[qG,List.length_drop] at hk
 show its.toArray[(((min n its.length:Nat):Int)+2*(k:Int)).toNat]? =_
 rw[Jc,List.getElem?_drop,List.getElem?_toArray]
 congr 1
 omega
theorem Vals.bV:∀{xs:List V} {us:List Value},Vals xs us→Vals (bV xs) (R.bV us)
 |_,_,.nil=>.nil
 |_,_,.cons r .nil=>.cons r .nil
 |_,_,.cons r (.cons _ t)=>.cons r (Vals.bV t)
def Bx(K:PySem.W.Frag)(te:TE)(tl th:TO):TE:=fun σ H Q=>te σ H fun x H1=>tl σ H1 fun l H2=>th σ H2 fun u H3=>∃(a:Addr) (xs:List V) (n:Nat),x= .ref a∧au K H3 a xs∧l=some (n:Int)∧u=none∧∀p,H3 p=none→Q (.ref p) (upd H3 p (.lst (bV (xs.drop n))))
theorem W7{e:Expr}{te:TE}{lo hi:Option Expr}{tl th:TO}{p1 p2 p3:Pos}{j1:Nat}(he:PE X e te)(hl:PO X lo tl)(hu:PO X hi th):PE X (.Subscript e (.Slice lo hi (some (.Constant (.int 2) j1 p3)) p2) p1) (Bx X.K te tl th):=by
 intro pins s σ H Q I h
 refine Subscript_ (aN (he pins s σ H _ I h) fun v s1 ⟨x,H1,I1,r1,q1⟩=>?_)
 have hst:PO X (some (.Constant (.int 2) j1 p3)) (iU (tC (.int 2))):=jL aK
 refine wpAny_Slice (aN (hl pins s1 σ H1 _ I1 q1) fun vl s2 ⟨l,H2,I2,pl,q2⟩=>aN (hu pins s2 σ H2 _ I2 q2) fun vu s3 ⟨u,H3,I3,pu,q3⟩=>?_)
 refine aN (hst pins s3 σ H3 (fun o H'=>o=some 2∧H'=H3) I3 ⟨2,rfl,rfl,rfl⟩) fun vst s4 ⟨o,H4,I4,pst,eo,eH⟩=>?_
 subst eo eH
 obtain⟨a,xs,n,rfl,hx,rfl,rfl,q⟩:=q3
 have I5:Inv X pins σ H4 {s4 with heap:=s4.heap.push {cls:=.type "slice",data:=.fields #[vl,vu,vst]}}:=I4.kept (t':=s4.toks) fun b ob q=>Heap.get?_push_of_some _ q
 cases r1
 obtain⟨its,r,ht,hz⟩:=I5.list hx
 have hlen:=r.length
 show wpAny (model X.prog X.w) X.A (subscriptTail e (.Slice lo hi (some (.Constant (.int 2) j1 p3)) p2) (.ref a) (.ref s4.heap.objs.size)) (EP X pins σ Q) X.xe {s4 with heap:=s4.heap.push {cls:=.type "slice",data:=.fields #[vl,vu,vst]}}
 refine tail_any (ops:=[.ref a,.ref s4.heap.objs.size]) ht.isList.typeIs slot_list_getitem.lookup ?_ (by with_unfolding_all rfl)
 refine wpAny_getItem_list_slice ht.isList (Heap.IsSliceOf.new ..) pl pu pst (by simp) ?_ (by rw[List.size_toArray]<;>omega)
 rw[akD]
 refine⟨.ref _,_,I5.laid (t':=s4.toks) (o:=.lst (bV (xs.drop n))) (fun b ob q=>Heap.get?_push_of_some _ q) (Nat.le_refl _) ?_,rfl,q _ (I5.hok.fresh (Nat.le_refl _))⟩
 exact⟨by rw[qG,List.length_drop];omega,_,0,Vals.bV (r.drop n),Heap.get?_push_size _ rfl⟩
def Zn(K:PySem.W.Frag):R2:=fun x y H Q=>∃(d:PyData) (ds:List PyData),Dp K H x d∧Dp K H y (.tuple ds)∧SeqAt.shaped d=true∧SeqAt.shaped (.tuple ds)=true∧Q (.bl (!ds.any fun e=>PyData.eqv e d)) H
theorem agr(hu:X.A.units+65<cLine):cP X (compareOp .NotIn) (Zn X.K):=by
 intro pins s σ H x y v u Q I rx ry h
 obtain⟨d,ds,hd,he,sd,se,q⟩:=h
 obtain⟨as,r1⟩:=Dp.reads I d x v hd rx
 obtain⟨bs,r2⟩:=Dp.reads I (.tuple ds) y u he ry
 exact SeqAt.notIn_tuple_reads r2 r1 (SeqAt.canLay_of_shaped se) (SeqAt.canLay_of_shaped sd) (PyProof.Rows.room_in_shaped sd hu) ⟨.bl _,H,I,rfl,q⟩
end
theorem Df.ce{P:Program}{w:World}{K:PySem.W.Frag}{mg:Str→Option Value}{base:Heap}{x qual:Str}{st:Stmt}{N ps:List Str}{k:Nat}{sp:Sp}{rd:TS}(D:Df K mg x qual st)(S:aW N ps (aO st))
 (hb:∀(kV doc pm:Value) (an:Option Addr) (cdv ct:Value) (us:List Value),us.length=ps.length→bindArgs (PySem.W.fnOf x qual (lR st) (iQ st) (aO st) .none kV doc pm an cdv ct) ⟨us,[]⟩=pure (ps.zip us))
 (len:∀vs H Q E,sp vs H Q E→vs.length=ps.length)
 (dv:∀(f:Addr) (cdv:Value) (A:Around) (outer:List Env) (s:Shared) (H:Hp) (E:XK),cO k (A.deeper (envOfC qual (aO st) s.heap.objs.size f cdv))→gC (mG jc P w K mg base N qual (aO st) f cdv A outer s H E).pW (iQ st) rd)
 (hrd:∀vs H Q E,sp vs H Q E→rd {nx:=fun _ H'=>Q .non H',rt:=Q} (start N vs) H):Ce P w K mg base (k+1) x ps sp:=by
 obtain⟨f,fd,F,hm⟩:=D
 exact⟨f,fd,F.ok S len fun cdv A outer s H vs Q E hr h=>⟨rd,dv f cdv A outer s H E hr,hrd vs H Q E h⟩,hm,F.kp,F.binds hb⟩
def nw(B H:Hp):Hp:=fun b=>if(B b).isNone=true then H b else none
theorem aay{B H:Hp}{b:Addr}(h:B b=none):nw B H b=H b:=by
 unfold nw
 rw[h]
 rfl
theorem cu{B H:Hp}{b:Addr}{o:HO}(h:nw B H b=some o):B b=none∧H b=some o:=by
 unfold nw at h
 cases e:B b with
 |none=>rw[e] at h;exact⟨rfl,h⟩
 |some u=>rw[e] at h;simp at h
theorem bO{B H:Hp}{b:Addr}{o:HO}(h:B b=none)(e:H b=some o):nw B H b=some o:=by rw[aay h];exact e
theorem bW(B H:Hp):Same (nw B H) H:=fun _ _ h=>(cu h).2
theorem qX{B H H':Hp}(s:Same H H'):Same (nw B H) (nw B H'):=fun b o h=>bO (cu h).1 (s b o (cu h).2)
theorem zX{B B' H:Hp}(s:Same B B'):Same (nw B' H) (nw B H):=fun b o h=>bO (s.free (cu h).1) (cu h).2
theorem cC{H H':Hp}{a:Addr}{o:HO}(s:Same H H')(h:H a=none):Same H (upd H' a o):=fun b u e=>by
 rw[aH (bM e h)]
 exact s b u e
theorem bI{H:Hp}{a:Addr}{o:HO}(h:H a=none):Same H (upd H a o):=cC (Same.refl H) h
def cQ(H:Hp)(Q:VK)(R:V→Hp→Prop):Prop:=∀v H',Same H H'→R v (nw H H')→Q v H'
theorem cQ.here{H:Hp}{Q:VK}{R:V→Hp→Prop}{v:V}(h:cQ H Q R)(r:R v (nw H H)):Q v H:=h v H (Same.refl H) r
theorem JD(σ:L2.St)(i:Nat)(x:V):L2.wipe ((L2.wipe σ [i]).set i (some x)) [i]=L2.wipe σ [i]:=by
 simp[L2.wipe]
theorem qx{α β:Type}{F:α→β→Prop}:∀{l l':List α} {m m':List β},Paired F l m→Paired F l' m'→Paired F (l++l') (m++m')
 |_,_,_,_,.nil,s=>s
 |_,_,_,_,.cons r t,s=>.cons r (qx t s)
theorem d9{α β:Type}{F:α→β→Prop}{l:List α}{m:List β}(h:Paired F l m):l.length=m.length:=Paired.length h
theorem Mx{J:It}{n slot:Nat}{item:Nat→Option V}{tt:TT}{te:TE}{σ:L2.St}{H1:Hp}{D:Addr}{Qd:Hp→Prop}(flt:Nat→Bool)(Pe:Nat→V→Hp→Prop)(hD:H1 D=none)
 (hgo:∀i Hc,i<n→Same H1 Hc→J.go i Hc)(hst:∀Hc,Same H1 Hc→J.stop n Hc)(hy:∀i Hc x H',i<n→Same H1 Hc→J.fY i Hc x H'→H'=Hc∧item i=some x)
 (ht:∀i x Hc,i<n→item i=some x→Same H1 Hc→∀Qt:Bool→Hp→Prop,(∀H3,Same Hc H3→Qt (flt i) H3)→tt ((L2.wipe σ [slot]).set slot (some x)) Hc Qt)
 (he:∀i x Hc,i<n→item i=some x→flt i=true→Same H1 Hc→∀Qe:VK,(∀y H4,Same Hc H4→Pe i y (nw Hc H4)→Qe y H4)→te ((L2.wipe σ [slot]).set slot (some x)) Hc Qe)
 (mono:∀i y G G',Same G G'→Pe i y G→Pe i y G')(hn:n≤sizeLine)
 (hq:∀ys H',Same H1 H'→H' D=some (.lst ys)→Paired (fun j y=>Pe j y (nw (upd H1 D (.lst [])) H')) ((List.range n).filter flt) ys→Qd H'):
 ∃W:Nat→Nat→Hp→Prop,(∃m,W 0 m (upd H1 D (.lst [])))∧∀i m H,W i m H→
  (J.stop i H∧Qd H)∨(J.go i H∧∃Nx:Hp→Prop,(∀H',Nx H'→∃m',m'<m∧W (i+1) m' H')∧∀x H',J.fY i H x H'→aJ slot x (L2.wipe σ [slot]) H' fun σ2 H2=>L2.wipe σ2 [slot]=L2.wipe σ [slot]∧tt σ2 H2 fun b H3=>
    if b=true then te σ2 H3 fun y H4=>∃acc,H4 D=some (.lst acc)∧acc.length<sizeLine∧Nx (upd H4 D (.lst (acc++[y]))) else Nx H3):=by
 let Pv:Nat→Hp→Prop:=fun i Hc=>∃ys,Hc D=some (.lst ys)∧Same H1 Hc∧Paired (fun j y=>Pe j y (nw (upd H1 D (.lst [])) Hc)) ((List.range i).filter flt) ys
 refine⟨fun i m Hc=>m=n - i∧i≤n∧Pv i Hc,⟨n,by simp,Nat.zero_le _,[],aC,bI hD,.nil⟩,?_⟩
 rintro i m Hc ⟨rfl,hi,ys,hys,sm,pr⟩
 by_cases hlt:i<n
 ·refine .inr ⟨hgo i Hc hlt sm,Pv (i+1),fun H' p'=>⟨n - (i+1),by omega,rfl,hlt,p'⟩,fun x H' y=>?_⟩
  obtain⟨e,hx⟩:=hy i Hc x H' hlt sm y
  subst e
  refine⟨JD σ slot x,ht i x _ hlt hx sm _ fun H3 s3=>?_⟩
  have sB:Same (upd H1 D (.lst [])) (upd H3 D (.lst [])):=fun b o e=>by
   by_cases hb:b=D
   ·subst hb
    rw[aC] at e⊢
    exact e
   ·rw[aH hb] at e⊢
    exact s3 _ _ (sm _ _ e)
  have keep:∀{G:Hp} {l:List V},Same H3 G→Same (nw (upd H1 D (.lst [])) H') (nw (upd H1 D (.lst [])) (upd G D (.lst l))):=fun {G l} sg b o e=>by
   obtain⟨e1,e2⟩:=cu e
   have hb:b≠D:=fun z=>by rw[z,aC] at e1;cases e1
   exact bO e1 (by rw[aH hb];exact sg _ _ (s3 _ _ e2))
  cases hf:flt i with
  |false=>
   rw[if_neg (by simp)]
   refine⟨ys,s3 _ _ hys,sm.trans s3,?_⟩
   rw[List.range_succ,List.filter_append]
   simp only[List.filter_cons,hf,Bool.false_eq_true,if_false,List.filter_nil,List.append_nil]
   exact Paired.dY pr fun j y p=>mono j y _ _ (qX s3) p
  |true=>
   rw[if_pos rfl]
   refine he i x H3 hlt hx hf (sm.trans s3) _ fun y H4 s4 p4=>⟨ys,s4 _ _ (s3 _ _ hys),?_,ys++[y],aC,?_,?_⟩
   ·have:=d9 pr
    have h2:((List.range i).filter flt).length≤i:=Nat.le_trans (List.length_filter_le _ _) (by simp)
    omega
   ·intro b o e
    rw[aH (bM e hD)]
    exact s4 _ _ (s3 _ _ (sm _ _ e))
   ·rw[List.range_succ,List.filter_append]
    simp only[List.filter_cons,hf,if_true,List.filter_nil]
    refine qx (Paired.dY pr fun j y p=>mono j y _ _ (keep s4) p) (.cons (mono i y _ _ ?_ p4) .nil)
    intro b o e
    obtain⟨e1,e2⟩:=cu e
    have hb:b≠D:=fun z=>by
     rw[z,s3 _ _ hys] at e1
     cases e1
    refine bO ?_ (by rw[aH hb];exact e2)
    rw[aH hb]
    exact(sm.trans s3).free e1
 ·have e:i=n:=by omega
  subst e
  exact .inl ⟨hst Hc sm,hq ys Hc sm hys pr⟩
theorem lF{K:PySem.W.Frag}{a:Addr}{xs:List V}{slot:Nat}{tt:TT}{te:TE}{σ:L2.St}{H1:Hp}{D:Addr}{Qd:Hp→Prop}(flt:Nat→Bool)(Pe:Nat→V→Hp→Prop)(hD:H1 D=none)(hx:au K H1 a xs)
 (ht:∀i x Hc,xs[i]? =some x→Same H1 Hc→∀Qt:Bool→Hp→Prop,(∀H3,Same Hc H3→Qt (flt i) H3)→tt ((L2.wipe σ [slot]).set slot (some x)) Hc Qt)
 (he:∀i x Hc,xs[i]? =some x→flt i=true→Same H1 Hc→∀Qe:VK,(∀y H4,Same Hc H4→Pe i y (nw Hc H4)→Qe y H4)→te ((L2.wipe σ [slot]).set slot (some x)) Hc Qe)
 (mono:∀i y G G',Same G G'→Pe i y G→Pe i y G')(hn:xs.length≤sizeLine)
 (hq:∀ys H',Same H1 H'→H' D=some (.lst ys)→Paired (fun j y=>Pe j y (nw (upd H1 D (.lst [])) H')) ((List.range xs.length).filter flt) ys→Qd H'):
 ∃W:Nat→Nat→Hp→Prop,(∃m,W 0 m (upd H1 D (.lst [])))∧∀i m H,W i m H→
  ((iH K a).stop i H∧Qd H)∨((iH K a).go i H∧∃Nx:Hp→Prop,(∀H',Nx H'→∃m',m'<m∧W (i+1) m' H')∧∀x H',(iH K a).fY i H x H'→aJ slot x (L2.wipe σ [slot]) H' fun σ2 H2=>L2.wipe σ2 [slot]=L2.wipe σ [slot]∧tt σ2 H2 fun b H3=>
    if b=true then te σ2 H3 fun y H4=>∃acc,H4 D=some (.lst acc)∧acc.length<sizeLine∧Nx (upd H4 D (.lst (acc++[y]))) else Nx H3):=
 Mx (n:=xs.length) (item:=fun i=>xs[i]?) flt Pe hD (fun i Hc hi s=>⟨xs,xs[i],s.seq hx,by simp[hi]⟩) (fun Hc s=>⟨xs,s.seq hx,Nat.le_refl _⟩) (fun i Hc x H' hi s y=>⟨y.1,y.2 xs (s.seq hx)⟩) (fun i x Hc _=>ht i x Hc) (fun i x Hc _=>he i x Hc) mono hn hq
theorem ags{lo:Int}{n slot:Nat}{tt:TT}{te:TE}{σ:L2.St}{H1:Hp}{D:Addr}{Qd:Hp→Prop}(flt:Nat→Bool)(Pe:Nat→V→Hp→Prop)(hD:H1 D=none)
 (ht:∀i Hc,i<n→Same H1 Hc→∀Qt:Bool→Hp→Prop,(∀H3,Same Hc H3→Qt (flt i) H3)→tt ((L2.wipe σ [slot]).set slot (some (.int (lo+i)))) Hc Qt)
 (he:∀i Hc,i<n→flt i=true→Same H1 Hc→∀Qe:VK,(∀y H4,Same Hc H4→Pe i y (nw Hc H4)→Qe y H4)→te ((L2.wipe σ [slot]).set slot (some (.int (lo+i)))) Hc Qe)
 (mono:∀i y G G',Same G G'→Pe i y G→Pe i y G')(hn:n≤sizeLine)
 (hq:∀ys H',Same H1 H'→H' D=some (.lst ys)→Paired (fun j y=>Pe j y (nw (upd H1 D (.lst [])) H')) ((List.range n).filter flt) ys→Qd H'):
 ∃W:Nat→Nat→Hp→Prop,(∃m,W 0 m (upd H1 D (.lst [])))∧∀i m H,W i m H→
  ((jB lo n).stop i H∧Qd H)∨((jB lo n).go i H∧∃Nx:Hp→Prop,(∀H',Nx H'→∃m',m'<m∧W (i+1) m' H')∧∀x H',(jB lo n).fY i H x H'→aJ slot x (L2.wipe σ [slot]) H' fun σ2 H2=>L2.wipe σ2 [slot]=L2.wipe σ [slot]∧tt σ2 H2 fun b H3=>
    if b=true then te σ2 H3 fun y H4=>∃acc,H4 D=some (.lst acc)∧acc.length<sizeLine∧Nx (upd H4 D (.lst (acc++[y]))) else Nx H3):=
 Mx (n:=n) (item:=fun i=>some (.int (lo+i))) flt Pe hD (fun i Hc hi s=>hi) (fun Hc s=>Nat.le_refl _) (fun i Hc x H' hi s y=>⟨y.1,by rw[y.2]⟩) (fun i x Hc hi e=>by cases e;exact ht i Hc hi) (fun i x Hc hi e=>by cases e;exact he i Hc hi) mono hn hq
theorem aiB{z:Str}{slot:Nat}{tt:TT}{te:TE}{σ:L2.St}{H1:Hp}{D:Addr}{Qd:Hp→Prop}(flt:Nat→Bool)(Pe:Nat→V→Hp→Prop)(hD:H1 D=none)
 (ht:∀i c Hc,z.cps[i]? =some c→Same H1 Hc→∀Qt:Bool→Hp→Prop,(∀H3,Same Hc H3→Qt (flt i) H3)→tt ((L2.wipe σ [slot]).set slot (some (.str ⟨#[c]⟩))) Hc Qt)
 (he:∀i c Hc,z.cps[i]? =some c→flt i=true→Same H1 Hc→∀Qe:VK,(∀y H4,Same Hc H4→Pe i y (nw Hc H4)→Qe y H4)→te ((L2.wipe σ [slot]).set slot (some (.str ⟨#[c]⟩))) Hc Qe)
 (mono:∀i y G G',Same G G'→Pe i y G→Pe i y G')(hn:z.cps.size≤sizeLine)
 (hq:∀ys H',Same H1 H'→H' D=some (.lst ys)→Paired (fun j y=>Pe j y (nw (upd H1 D (.lst [])) H')) ((List.range z.cps.size).filter flt) ys→Qd H'):
 ∃W:Nat→Nat→Hp→Prop,(∃m,W 0 m (upd H1 D (.lst [])))∧∀i m H,W i m H→
  ((Its z).stop i H∧Qd H)∨((Its z).go i H∧∃Nx:Hp→Prop,(∀H',Nx H'→∃m',m'<m∧W (i+1) m' H')∧∀x H',(Its z).fY i H x H'→aJ slot x (L2.wipe σ [slot]) H' fun σ2 H2=>L2.wipe σ2 [slot]=L2.wipe σ [slot]∧tt σ2 H2 fun b H3=>
    if b=true then te σ2 H3 fun y H4=>∃acc,H4 D=some (.lst acc)∧acc.length<sizeLine∧Nx (upd H4 D (.lst (acc++[y]))) else Nx H3):=
 Mx (n:=z.cps.size) (item:=fun i=>(z.cps[i]?).map fun c=>.str ⟨#[c]⟩) flt Pe hD (fun i Hc hi s=>hi) (fun Hc s=>Nat.le_refl _)
  (fun i Hc x H' hi s y=>by
    obtain⟨e,c,hc,ex⟩:=y
    exact⟨e,by rw[hc,ex];rfl⟩)
  (fun i x Hc hi e=>by
    obtain⟨c,hc,rfl⟩:=Option.map_eq_some_iff.mp e
    exact ht i c Hc hc)
  (fun i x Hc hi e=>by
    obtain⟨c,hc,rfl⟩:=Option.map_eq_some_iff.mp e
    exact he i c Hc hc) mono hn hq
open AutoSeq1 (wpAny_loadPart')
section
variable{prog:Program}{w:World}{A:Around}{E:Value→Shared→Prop}{s:Shared}
theorem afk{it t:Addr}{i:Nat}{items:Array Value}{x:Value}{Q:Value→Shared→Prop}(hit:s.heap.IsTupleIter it t i)(ht:s.heap.IsTuple t items)(hx:items[i]? =some x)
 (hQ:∀h',h'.IsTupleIter it t (i+1)→Heap.SameBut it s.heap h'→Q x {s with heap:=h'}):wpAny (model prog w) A (Builtin.SmallTypes.nextOf (.ref it)) Q E s:=by
 obtain⟨o,ho,hc,hd⟩:=id hit
 obtain⟨ol,hol,_,nl,hdl⟩:=ht
 unfold Builtin.SmallTypes.nextOf
 refine wpAny_bind (wpAny_callSpecial?_slot (name:=Str.ofString "__next__") hit.typeIs F.slot_tuple_iterator_next (wpAny_call_entry F.slot_tuple_iterator_next hit.typeIs F.entry_tuple_iterator_next ?_ (F.args_tuple_iterator_next_1 _)))
 show wpAny _ _ (field (.ref it) 0 >>= _) _ _ s;refine wpAny_bind (wpAny_field ho hd (x:=.ref t) rfl ?_)
 show wpAny _ _ (if(Value.ref t==Value.none)=true then _ else _) _ _ s;rw[if_neg (show ¬((Value.ref t==Value.none)=true) from Bool.false_ne_true)]
 show wpAny _ _ (field (.ref it) 1 >>= _) _ _ s;refine wpAny_bind (wpAny_field ho hd (x:=.int i 0) rfl ?_)
 show wpAny _ _ (seqItems? (.ref t) >>= _) _ _ s;refine wpAny_bind (wpAny_seqItems hol hdl ?_)
 simp only[Int.toNat_natCast,hx]
 refine wpAny_bind (wpAny_setField ho hd (by simp) (wpAny_pure ⟨x,rfl,wpAny_pure (hQ _ ⟨_,Heap.get?_update_self _ ho (Obj.isFreed_of_fields (Obj.data_mapFields hd _)),(Obj.cls_mapFields ..).trans hc,?_⟩ (Heap.SameBut.update ..))⟩))
 rw[Obj.data_mapFields hd];simp[rawInt]
theorem agt{it t:Addr}{i:Nat}{items:Array Value}{Q:Value→Shared→Prop}(hh:A.handled=none)(hit:s.heap.IsTupleIter it t i)(ht:s.heap.IsTuple t items)(hx:items[i]? =none)
 (hE:∀h' e,Heap.ExtBut it s.heap h'→(∃o,h'.get? e=some o∧o.cls= .type "StopIteration")→E (.ref e) {s with heap:=h'}):wpAny (model prog w) A (Builtin.SmallTypes.nextOf (.ref it)) Q E s:=by
 obtain⟨o,ho,hc,hd⟩:=id hit
 obtain⟨ol,hol,_,nl,hdl⟩:=ht
 unfold Builtin.SmallTypes.nextOf
 refine wpAny_bind (wpAny_callSpecial?_slot (name:=Str.ofString "__next__") hit.typeIs F.slot_tuple_iterator_next (wpAny_call_entry F.slot_tuple_iterator_next hit.typeIs F.entry_tuple_iterator_next ?_ (F.args_tuple_iterator_next_1 _)))
 show wpAny _ _ (field (.ref it) 0 >>= _) _ _ s;refine wpAny_bind (wpAny_field ho hd (x:=.ref t) rfl ?_)
 show wpAny _ _ (if(Value.ref t==Value.none)=true then _ else _) _ _ s;rw[if_neg (show ¬((Value.ref t==Value.none)=true) from Bool.false_ne_true)]
 show wpAny _ _ (field (.ref it) 1 >>= _) _ _ s;refine wpAny_bind (wpAny_field ho hd (x:=.int i 0) rfl ?_)
 show wpAny _ _ (seqItems? (.ref t) >>= _) _ _ s;refine wpAny_bind (wpAny_seqItems hol hdl ?_)
 simp only[Int.toNat_natCast,hx]
 refine wpAny_bind (wpAny_rule (wpAny_bind (wpAny_setField ho hd (by simp) ?_)))
 show wpAny _ _ (newExc (.type "StopIteration") [] >>= _) _ _ _;refine wpAny_bind ?_
 simp only[newExc,newTuple];refine wpAny_bind (wpAny_newObj_type ?_ (by size_fits))
 refine wpAny_bind (m:=firstArgMember _ _) (wpAny_of_eq (a:=Value.none) (by first|rfl|(simp only[firstArgMember];rfl)) ?_);refine wpAny_newObj_type ?_ (by size_fits)
 simp only[raiseNew];refine wpAny_bind (wpAny_handled ?_)
 first|rw[show A.in1.handled=none from hh]|rw[hh]
 refine wpAny_bind (wpAny_pure (wpAny_throw ?_));exact hE _ _ (((Heap.SameBut.update ..).extBut.push _).push _) ⟨_,Heap.get?_push_size _ rfl,rfl⟩
end
theorem W8{prog:Program}{w:World}{A:Around}(hh:A.handled=none)(it t:Addr)(hne:t≠it)(items:Array Value)(k:Nat):
 Draws prog w A it [it,t] (k+items.size) (fun i x=>items[i - k]? =some x) (fun i h=>k≤i∧h.IsTupleIter it t (i - k)∧h.IsTuple t items) where
 live:=fun i h ⟨_,⟨o,ho,_⟩,_⟩=>⟨o,ho⟩
 frame:=fun i h h' ⟨h1,h2,h3⟩ f=>by
  refine⟨h1,h2.at fun o q=>f it (by simp) o q,?_⟩
  obtain⟨o,ho,r⟩:=h3
  exact⟨o,f t (by simp) o ho,r⟩
 item:=fun i s Q E hi ⟨h1,h2,h3⟩ hQ=>by
  have hlt:i - k<items.size:=by omega
  refine afk h2 h3 (x:=items[i - k]) (by simp[hlt]) fun h' hit' hs'=>?_
  refine hQ _ h' s.toks (by simp[hlt]) ⟨by omega,?_,?_⟩ hs'
  ·have e:i+1 - k=i - k+1:=by omega
   rw[e]
   exact hit'
  ·obtain⟨o,ho,r⟩:=h3
   exact⟨o,(hs'.2 t hne).trans ho,r⟩
 done:=fun s Q E ⟨h1,h2,h3⟩ hE=>agt hh h2 h3 (by simp) hE
theorem aew(l:Addr)(items:Array Value)(n:Nat)(dct:Option Addr)(sl:Array (Option Value))(tk:Tok):
 Meets (Builtin.«enumerate.__new__» ⟨[.type "enumerate",.ref l],[(Str.ofString "start",.int 1 tk)]⟩) (fun _ R s=>s.heap.get? l=some {cls:=.type "tuple",dict:=dct,data:=.seq items n,slots:=sl}∧
  R (.ok (.ret (.ref (s.heap.push {cls:=.type "tuple_iterator",data:=.fields #[.ref l,.int 0 0]}).objs.size)))
    {s with heap:=(s.heap.push {cls:=.type "tuple_iterator",data:=.fields #[.ref l,.int 0 0]}).push {cls:=.type "enumerate",data:=.fields #[.none,.bool false,.ref s.heap.objs.size,rawInt 1,.none,.none]}}):=
 .of_wp fun prog w A R s h=>by
  obtain⟨hp,g,d,tk,os⟩:=s
  obtain⟨hl,h⟩:=h
  have hsub:=sub_enumerate
  have hL:Heap.IsTuple (Shared.heap ⟨hp,g,d,tk,os⟩) l items:=⟨_,hl,rfl,n,rfl⟩
  wp_walk using wpAny_loadPart' hl
  refine wpAny_stack_any fun st=>wpAny_pure ?_
  split
  ·rename_i c _ _ _ _ _
   cases(c==Value.type "enumerate")
   ·wp_walk using wpAny_loadPart' hl,wpAny_pyIter_tuple hL
    exact⟨_,rfl,h⟩
   ·wp_walk using wpAny_loadPart' hl,wpAny_pyIter_tuple hL
    exact⟨_,rfl,h⟩
  ·wp_walk using wpAny_loadPart' hl,wpAny_pyIter_tuple hL
   exact⟨_,rfl,h⟩
section
variable{prog:Program}{w:World}{A:Around}{E:Value→Shared→Prop}{s:Shared}
theorem aiC{self:Value}{a:Value}{kw:List (Str×Value)}(hl:typeLookup (.type "enumerate") "__init__"=pure (some (.builtin "object.__init__")))(hm:Bind.madeBy (.type "enumerate")=pure (some "enumerate.__new__")):
 Meets (Builtin.«object.__init__» ⟨[self,a],kw⟩) (fun _ R s=>s.TypeIs self "enumerate"∧R (.ok (.ret .none)) s):=by
 refine Meets.of_wp fun prog w A R s hs=>?_
 obtain⟨hT,hq⟩:=hs
 repeat(any_goals (first|assumption|wp_step))
 exact⟨_,rfl,hq⟩
theorem afl{l:Addr}{items:Array Value}{tk:Tok}{Q:Value→Shared→Prop}(hL:s.heap.IsTuple l items)
 (h:∀h',IsEnum h' (s.heap.objs.size+1) s.heap.objs.size 1 .none→h'.IsTupleIter s.heap.objs.size l 0→h'.objs.size=s.heap.objs.size+2→
   (∀b o,s.heap.get? b=some o→h'.get? b=some o)→Q (.ref (s.heap.objs.size+1)) {s with heap:=h'}):
 wpAny (model prog w) A (call (.type "enumerate") [.ref l] [(Str.ofString "start",.int 1 tk)]) Q E s:=by
 obtain⟨⟨c,dct,dt,sl⟩,hl,hc,n,hd⟩:=hL
 replace hc:c= .type "tuple":=hc
 replace hd:dt= .seq items n:=hd
 subst hc hd
 have ft:=F.called_enumerate
 obtain⟨c,tl,hmro⟩:=ft.mro
 have hmade:=ft.made
 have hsub:=ft.sub
 have hct:checkTypeCall "enumerate" ⟨[.ref l],[(Str.ofString "start",.int 1 tk)]⟩=pure ():=by kernel_rfl
 have hcn:checkBuiltinCall "enumerate.__new__" ⟨[.type "enumerate",.ref l],[(Str.ofString "start",.int 1 tk)]⟩=pure ():=by kernel_rfl
 refine wpAny_call (codeAny_of_tree ?_);show wpAny _ _ (callAny (.type "enumerate") _) _ _ _
 refine wpAny_pure ⟨Code.quiet_builtin _ (by decide+kernel),codeAny_builtin F.entry_type_call ?_⟩;rw[Around.under_plain (weight_type_call_type "enumerate" [.ref l] [(Str.ofString "start",.int 1 tk)]) (units_type_call_type "enumerate" [.ref l] [(Str.ofString "start",.int 1 tk)])]
 have h1:=ft.notType;have h2:=ft.canCreate
 repeat(any_goals (first|assumption|wp_step))
 have hz:(s.heap.push {cls:=.type "tuple_iterator",data:=.fields #[.ref l,.int 0 0]}).objs.size=s.heap.objs.size+1:=Heap.size_push ..
 have he:IsEnum ((s.heap.push {cls:=.type "tuple_iterator",data:=.fields #[.ref l,.int 0 0]}).push
  {cls:=.type "enumerate",data:=.fields #[.none,.bool false,.ref s.heap.objs.size,rawInt 1,.none,.none]}) (s.heap.objs.size+1) s.heap.objs.size 1 .none:=by
  have:=Heap.get?_push_size (s.heap.push {cls:=.type "tuple_iterator",data:=.fields #[.ref l,.int 0 0]})
   (o:={cls:=.type "enumerate",data:=.fields #[.none,.bool false,.ref s.heap.objs.size,rawInt 1,.none,.none]}) rfl
  rw[hz] at this;exact this
 have fin:=h _ he ⟨_,Heap.get?_push_of_some _ (Heap.get?_push_size _ rfl),rfl,rfl⟩ (by rw[Heap.size_push,hz]) fun b o x=>Heap.get?_push_of_some _ (Heap.get?_push_of_some _ x)
 refine codeAny_mono (codeAny_call_builtin ft.plain F.entry_enumerate_new (wpAny_of_eq hcn (aew l items n dct sl tk prog w A.in1 (wants (fun obj s₁=>s₁.TypeIs obj "enumerate"∧Q obj s₁) E) s ⟨hl,?_⟩))) fun r s₁ hr=>?_
 ·show _∧_
  rw[hz]
  exact⟨⟨_,he,rfl⟩,fin⟩
 cases r with
 |error e=>exact hr
 |ok fl=>
  cases fl with
  |ret obj=>
   have hT:s₁.TypeIs obj "enumerate":=hr.1
   have hQ:Q obj s₁:=hr.2
   have hli:=ft.init.lookup
   have hbi:=ft.init.bind obj
   have hok:argsOk "object.__init__" ⟨[obj,.ref l],[(Str.ofString "start",.int 1 tk)]⟩:=by
    first|exact F.args_object_init_2 obj _|(intro;kernel_rfl)|kernel_rfl
   repeat(any_goals (first|assumption|wp_step))
   refine codeAny_mono (codeAny_call_builtin ft.init.plain F.entry_object_init (ft.init.check _ _ _ _ _ _ _ _ hT hok (aiC hli hmade prog w A.in1 (wants (fun r s₂=>r= .none∧Q obj s₂) E) s₁ ⟨hT,rfl,hQ⟩))) fun r₂ s₂ hr₂=>?_
   cases r₂ with
   |error e=>exact hr₂
   |ok fl₂=>
    cases fl₂ with
    |ret r=>
     obtain⟨rfl,hq⟩:=hr₂
     repeat(any_goals (first|assumption|wp_step))
    |_=>exact hr₂.elim
  |_=>exact hr.elim
end
def vh(K:PySem.W.Frag)(a:Addr):It:=
 ⟨fun i H=>∃(xs:List V) (x:V),bK K H a xs∧xs[i]? =some x,fun i H v H'=>∃T x,v= .ref T∧H T=none∧H'=upd H T (.tup [.int ((1+i:Nat):Int),x])∧∀xs,bK K H a xs→xs[i]? =some x,fun i H=>∃xs:List V,bK K H a xs∧xs.length=i⟩
theorem afm{P:Program}{w:World}{K:PySem.W.Frag}{elts:List Expr}{kk:Nat}{tpos:Pos}(a e it:Addr)(hei:e≠it)(hea:e≠a)(hai:a≠it):
 Turn P w K (.Tuple elts kk tpos) (vh K a) [e,it] e (fun i h=>(∃old,IsEnum h e it ((1+i:Nat):Int) old)∧h.IsTupleIter it a i) where
 mem:=by simp
 obj:=fun i h st b hb=>by
  obtain⟨⟨old,he⟩,⟨o,ho,hc,hd⟩⟩:=st
  have e':b=e∨b=it:=by simpa using hb
  rcases e' with z|z
  ·rw[z];exact⟨_,he,fun v q=>nomatch q⟩
  ·rw[z];exact⟨o,ho,fun v q=>by rw[hd] at q;cases q⟩
 keep:=fun i h h' st k=>let ⟨⟨old,he⟩,hi⟩:=st;⟨⟨old,k e (by simp) _ he⟩,hi.at fun o q=>k it (by simp) o q⟩
 item:=by
  intro X hP hw hK hc i pins s σ H E I hf st hg
  subst hP hw hK
  obtain⟨⟨old,he⟩,hit⟩:=st
  obtain⟨xs,x,hq,hx⟩:=hg
  obtain⟨its,rv,p,hz⟩:=I.tuple hq
  obtain⟨u,hu,ru⟩:=rv.get hx
  have hel:e<s.heap.objs.size:=Heap.lt_size he
  have hil:it<s.heap.objs.size:=by obtain⟨_,q,_⟩:=hit;exact Heap.lt_size q
  have hsz:i<its.toArray.size:=by
   have:=(List.getElem?_eq_some_iff.mp hu).1
   simpa using this
  have e1:1+i - 1=i:=by omega
  refine wpAny_pyNext_enum_itemD (W8 (A:=X.A.in1) (I.ok.hd hc) it a hai its.toArray 1) he ⟨by omega,by rw[e1];exact hit,p⟩ (by omega) hei (by simp[hei,hea]) fun x' h' tk hPx ho hst' hT alQ hk=>?_
  rw[e1] at hPx
  have ex:x'=u:=by
   rw[show its.toArray[i]? =some u by simpa using hu] at hPx
   exact(Option.some.inj hPx).symm
  subst ex
  obtain⟨_,hit',_⟩:=hst'
  have e2:1+i+1 - 1=i+1:=by omega
  rw[e2] at hit'
  refine⟨_,rfl,wpAny_letOwnedTupleGo_enum (s:={s with heap:=h',toks:=tk+1}) ho fun h'' he' sb=>?_⟩
  have hT2:h''.get? s.heap.objs.size=some {cls:=.type "tuple",data:=.seq #[.int ((1+i:Nat):Int) tk,x']}:=(sb.2 _ (Nat.ne_of_gt hel)).trans hT
  have new:dI X.prog X.w (upd H s.heap.objs.size (.tup [.int ((1+i:Nat):Int),x])) h'' s.heap.objs.size (.tup [.int ((1+i:Nat):Int),x]):=
   ⟨by show 2≤sizeLine;decide,[.int ((1+i:Nat):Int) tk,x'],.cons ⟨_,rfl⟩ (.cons ru .nil),⟨_,hT2,rfl,_,rfl⟩⟩
  have I1:Inv X pins σ (upd H s.heap.objs.size (.tup [.int ((1+i:Nat):Int),x])) {s with heap:=h'',toks:=tk+1}:=
   I.WR (ch:=[e,it]) (fun b ob hb q=>(sb.2 b (fun z=>hb (by simp[z]))).trans (hk b ob (fun z=>hb (by simp[z])) (fun z=>hb (by simp[z])) q)) hf (Nat.le_refl _) new
  refine⟨.ref s.heap.objs.size,_,I1,rfl,⟨_,x,rfl,I.hok.fresh (Nat.le_refl _),rfl,fun ys hy=>by rw[I.agd hy hq];exact hx⟩,⟨⟨x',?_⟩,hit'.at fun o q=>(sb.2 it (Ne.symm hei)).trans q⟩,fun b hb=>?_⟩
  ·have e3:((1+(i+1):Nat):Int)=((1+i:Nat):Int)+1:=by omega
   rw[e3];exact he'
  ·have hb':b<s.heap.objs.size:=by
    have e':b=e∨b=it:=by simpa using hb
    rcases e' with z|z
    ·rw[z];exact hel
    ·rw[z];exact hil
   rw[aH (Nat.ne_of_lt hb')]
   exact(hf b hb).1
 done:=by
  intro X hP hw hK hc i pins s σ H E I hf st hg
  subst hP hw hK
  obtain⟨⟨old,he⟩,hit⟩:=st
  obtain⟨xs,hq,hx⟩:=hg
  obtain⟨its,rv,p,hz⟩:=I.tuple hq
  obtain⟨f0,f1,f2,f3,f4,f5⟩:=hf it (by simp)
  have hl:=rv.length
  refine wpAny_pyNext_enum_endD (W8 (A:=X.A.in1) (I.ok.hd hc) it a hai its.toArray 1) he ⟨by omega,?_,p⟩ fun h' eb=>⟨rfl,I.turned (t':=s.toks) (fun b o hb q=>eb b o hb q) f0 f1 f3 f4 f5⟩
  have e1:1+its.toArray.size - 1=i:=by
   rw[List.size_toArray]
   omega
  rw[e1]
  exact hit
 self:=fun A i s Q E st h=>let ⟨⟨_,he⟩,_⟩:=st;wpAny_pyIter_enum he h
def aae(K:PySem.W.Frag)(ta:TA):TI:=fun σ H R=>ta σ H fun vs H1=>∃a xs,vs=[.ref a]∧bK K H1 a xs∧R (vh K a) H1
theorem acX{M:Model}{A:Around}{E:Value→Shared→Prop}{s:Shared}{env:Env}{pos:Pos}{T:String}{e:Expr}{rest:List Expr}{kws:List Keyword}{Q:Value→Shared→Prop}
 (h:wpAny M A (spliced (backTo pos (starEach (e::rest) env))) (fun vs s₁=>wpAny M A (evalAll ((backToKw pos (keywordEach kws env)).map (·.2))) (fun kvs s₂=>wpAny M A (call (.type T) vs (((backToKw pos (keywordEach kws env)).filterMap (·.1)).zip kvs)) Q E s₂) E s₁) E s)
 (he:backTo pos (starEach (e::rest) env)=(false,eval e env)::backTo pos (starEach rest env):=by rfl)(hplain:(backTo pos (starEach (e::rest) env)).any (·.1)=false:=by rfl)
 (hall:(backToKw pos (keywordEach kws env)).all (·.1.isSome)=true:=by rfl)(hkw:(backToKw pos (keywordEach kws env)).any (·.1.isNone)=false:=by rfl):
 wpAny M A (callWith pos (.type T) [] (backTo pos (starEach (e::rest) env)) (backToKw pos (keywordEach kws env))) Q E s:=by
 have h2:wpAny M A (evalArgs (.type T) true (backTo pos (starEach (e::rest) env)) (backToKw pos (keywordEach kws env))) (fun a s₁=>wpAny M A (call (.type T) ([]++a.pos) a.kw) Q E s₁) E s:=by
  rw[he] at h⊢
  exact PyProof.Rows.evalArgs_kwB hall h
 unfold callWith
 refine wpAny_bind (wpAny_holding (wpAny_mono h2 (fun a s₁ h₁=>wpAny_bind (wpAny_standAt ?_)) fun _ _ x=>x));simp only[hplain,hkw,Bool.or_false]
 refine wpAny_bind (wpAny_pure ?_);exact wpAny_bind (wpAny_mono h₁ (fun r s₂ hr=>wpAny_bind (wpAny_holding (wpAny_point (wpAny_pure hr)))) fun _ _ x=>x)
theorem ahr{X:Cx}{e:Expr}{ta:TA}{p pos tpos kp kp2:Pos}{elts:List Expr}{kk j:Nat}(hg:Gl X "enumerate")(hm:X.mg "enumerate"=none)(ha:PA X [e] ta)(hs:starEach [e] X.env=[(false,eval e X.env)]:=by rfl):
 PI X (.Tuple elts kk tpos) (.Call (.Name "enumerate" p) [e] [⟨some "start",.Constant (.int 1) j kp,kp2⟩] pos) (aae X.K ta):=by
 intro pins s σ H R I h
 refine wpAny_Call_Name_kw (lW I hg hm boot_enumerate ?_)
 have hb:backTo pos (starEach [e] X.env)=(false,eval e X.env)::backTo pos (starEach [] X.env):=by rw[hs];rfl
 refine acX ?_ hb (by rw[hs];rfl) rfl rfl
 refine aN (ha pos pins s σ H _ I h) fun us s1 ⟨vs,H1,I1,r1,q1⟩=>?_
 obtain⟨a,xs,ex,hq,q⟩:=q1
 subst ex
 have hk:PK X [⟨some "start",.Constant (.int 1) j kp,kp2⟩] (ak (tC (.int 1)) aq):=aiq aK ajB
 refine aN (hk pos pins s1 σ H1 (fun ws H'=>ws=[.int 1]∧H'=H1) I1 ⟨rfl,rfl⟩) fun kvs s2 ⟨ws,H2,I2,r2,ew,eH⟩=>?_
 subst ew eH
 obtain⟨u,rfl,t,rfl⟩:=vals1 r2
 cases r1 with
 |cons r rr=>
  cases rr
  cases r
  obtain⟨its,rv,p',hz⟩:=I2.tuple hq
  refine afl p' fun h' he hit hsz hk=>wpAny_pyIter_enum he ?_
  have I3:Inv X pins σ H2 {s2 with heap:=h'}:=I2.kept (t':=s2.toks) hk
  have hal:a<s2.heap.objs.size:=p'.lt
  refine⟨s2.heap.objs.size+1,[s2.heap.objs.size+1,s2.heap.objs.size],_,_,H2,rfl,I3,afm a (s2.heap.objs.size+1) s2.heap.objs.size (Nat.succ_ne_self _) (Ne.symm (Nat.ne_of_lt (Nat.lt_succ_of_lt hal))) (Nat.ne_of_lt hal),⟨⟨.none,he⟩,hit⟩,fun b hb=>?_,q⟩
  have e':b=s2.heap.objs.size+1∨b=s2.heap.objs.size:=by simpa using hb
  have hle:s2.heap.objs.size≤b:=by
   rcases e' with z|z
   ·rw[z];exact Nat.le_add_right _ _
   ·rw[z];exact Nat.le_refl _
  exact I2.rY hle (I2.hok.fresh hle)
def Mz(to:TE)(t:TA)(Cz:Addr→Sp→Prop):TE:=fun σ H Q=>to σ H fun x H1=>∃f sp,x= .ref f∧Cz f sp∧t σ H1 fun vs H2=>sp vs H2 Q E0
def Cf(P:Program)(w:World)(K:PySem.W.Frag)(mg:Str→Option Value)(base:Heap)(k:Nat)(f:Addr)(sp:Sp):Prop:=
 ∃(fd:FuncData) (ps:List Str),iC P w K mg base jc k f fd ps sp∧PySem.W.keepIn K (.ref f)=true∧Binds K fd ps []
theorem ajQ{X:Cx}{k j i:Nat}{x:Str}{Cz:Addr→Sp→Prop}{e:Expr}{es:List Expr}{t:TA}{p pos:Pos}(hf:PE X (.Name x p) (aj i))(C:∀f sp,Cz f sp→Cf X.prog X.w X.K X.mg X.base k f sp)(hr:cO j X.A)(ha:PA X (e::es) t)(hk:k≤j:=by decide)
 (hst:starEach (e::es) X.env=(false,eval e X.env)::starEach es X.env:=by rfl)(hpl:(backTo pos (starEach es X.env)).any (·.1)=false:=by rfl):PE X (.Call (.Name x p) (e::es) [] pos) (Mz (aj i) t Cz):=by
 intro pins s σ H Q I h
 refine wpAny_Call_Name_kw (aN (hf pins s σ H _ I h) fun u s0 ⟨v,H0,I0,rv,f,sp,ev,es',h⟩=>?_)
 subst ev
 obtain rfl:u=Value.ref f:=rv
 obtain⟨fd,ps,F,kp,b⟩:=C f sp es'
 refine PySem.W.callWith_K (h₀:=X.base) I.ok.mod.vq kp (aN (ha pos pins s0 σ H0 _ I0 h) fun us s1 ⟨vs,H1,I1,r,q⟩=>⟨I1.gQ,?_⟩) hst hpl
 exact Mr (gD:=[]) (E:=E0) F (hr.mono hk) b .nil uZ I1 r (by rw[List.append_nil];exact q)
end R
namespace ML
open Rung
def qd(s:Scheme)(x:State)(u v:Nat):Prop:=∃c∈s.contacts,c.closed x=true∧((c.a=u∧c.b=v)∨(c.b=u∧c.a=v))
inductive je(s:Scheme)(x:State):Nat→Prop
 |zero:je s x 0
 |step {u v:Nat}:je s x u→qd s x u v→je s x v
def one(x:State)(m:Nat)(c:Contact):Nat:=if c.closed x=true∧(m.testBit c.a=true∨m.testBit c.b=true) then m ||| 2^c.a ||| 2^c.b else m
theorem alN(s:Scheme)(x:State)(m:Nat):spread s x m=s.contacts.foldl (one x) m:=rfl
theorem uE(m a b k:Nat):(m ||| 2^a ||| 2^b).testBit k=(m.testBit k||decide (a=k)||decide (b=k)):=by
 rw[Nat.testBit_or,Nat.testBit_or,Nat.testBit_two_pow,Nat.testBit_two_pow]
theorem Yi(x:State)(m:Nat)(c:Contact)(k:Nat)(h:m.testBit k=true):(one x m c).testBit k=true:=by
 unfold one
 split
 ·rw[uE,h]
  rfl
 ·exact h
theorem JF(x:State):∀(cs:List Contact) (m k:Nat),m.testBit k=true→(cs.foldl (one x) m).testBit k=true
 | [],_,_,h=>h
 |c::r,m,k,h=>JF x r _ k (Yi x m c k h)
theorem Ia(s:Scheme)(x:State)(m k:Nat)(h:m.testBit k=true):(spread s x m).testBit k=true:=JF x s.contacts m k h
theorem VJ{s:Scheme}{x:State}:∀(cs:List Contact),(∀c∈cs,c∈s.contacts)→∀m,(∀k,m.testBit k=true→je s x k)→∀k,(cs.foldl (one x) m).testBit k=true→je s x k
 | [],_,m,h=>h
 |c::r,hc,m,h=>by
  refine VJ r (fun d hd=>hc d (List.mem_cons_of_mem _ hd)) _ ?_
  intro k hk
  unfold one at hk
  split at hk
  ·rename_i hcl
   have hm:=hc c (List.mem_cons_self ..)
   rw[uE,Bool.or_eq_true,Bool.or_eq_true,decide_eq_true_eq,decide_eq_true_eq] at hk
   have ra:je s x c.a:=by
    rcases hcl.2 with z|z
    ·exact h _ z
    ·exact .step (h _ z) ⟨c,hm,hcl.1,.inr ⟨rfl,rfl⟩⟩
   have rb:je s x c.b:=.step ra ⟨c,hm,hcl.1,.inl ⟨rfl,rfl⟩⟩
   rcases hk with(z|z)|z
   ·exact h k z
   ·rw[←z];exact ra
   ·rw[←z];exact rb
  ·exact h k hk
theorem Ud{s:Scheme}{x:State}:∀(n m:Nat),(∀k,m.testBit k=true→je s x k)→∀k,(rounds s x n m).testBit k=true→je s x k
 |0,_,h=>h
 |n+1,m,h=>Ud n _ (VJ s.contacts (fun _ h=>h) m h)
theorem Yj(x:State):∀(cs:List Contact) (m:Nat),(∀k,(cs.foldl (one x) m).testBit k=true→m.testBit k=true)→∀c∈cs,c.closed x=true→(m.testBit c.a=true∨m.testBit c.b=true)→m.testBit c.a=true∧m.testBit c.b=true
 | [],_,_,_,hc,_,_=>absurd hc (by simp)
 |d::r,m,h,c,hc,hcl,hab=>by
  have e:one x m d=m:=by
   refine Nat.eq_of_testBit_eq fun k=>?_
   cases q:m.testBit k with
   |true=>exact Yi x m d k q
   |false=>
    cases q2:(one x m d).testBit k with
    |false=>rfl
    |true=>
     have:=h k (JF x r _ k q2)
     rw[q] at this
     cases this
  rcases List.mem_cons.mp hc with rfl|hc
  ·unfold one at e
   rw[if_pos ⟨hcl,hab⟩] at e
   have h1:=uE m c.a c.b c.a
   have h2:=uE m c.a c.b c.b
   rw[e] at h1 h2
   exact⟨by rw[h1];simp,by rw[h2];simp⟩
  ·refine Yj x r m (fun k hk=>h k ?_) c hc hcl hab
   rw[List.foldl_cons,e]
   exact hk
def kY(m:Nat):Nat:=((List.range 64).filter fun k=>m.testBit k).length
theorem aiD(m:Nat):kY m≤64:=by
 unfold kY
 exact Nat.le_trans (List.length_filter_le _ _) (by simp)
theorem filter_lt{α:Type}{p q:α→Bool}:∀(l:List α),(∀x∈l,p x=true→q x=true)→(∃x∈l,q x=true∧p x=false)→(l.filter p).length<(l.filter q).length
 | [],_,h=>by simp at h
 |a::r,h,⟨x,hx,hq,hp⟩=>by
  have le:(r.filter p).length≤(r.filter q).length:=by
   have:∀(l:List α),(∀x∈l,p x=true→q x=true)→(l.filter p).length≤(l.filter q).length:=by
    intro l
    induction l with
    |nil=>intro _;simp
    |cons b l ih=>
     intro hl
     have ih':=ih fun x hx=>hl x (List.mem_cons_of_mem _ hx)
     rw[List.filter_cons,List.filter_cons]
     cases pb:p b with
     |true=>
      rw[if_pos rfl,if_pos (hl b (List.mem_cons_self ..) pb)]
      simpa using ih'
     |false=>
      rw[if_neg (by simp)]
      split
      ·simp only[List.length_cons];omega
      ·exact ih'
   exact this r fun x hx=>h x (List.mem_cons_of_mem _ hx)
  rw[List.filter_cons,List.filter_cons]
  rcases List.mem_cons.mp hx with rfl|hx
  ·rw[if_neg (by simp[hp]),if_pos hq]
   simp only[List.length_cons]
   omega
  ·have lt:=filter_lt r (fun x hx=>h x (List.mem_cons_of_mem _ hx)) ⟨x,hx,hq,hp⟩
   cases pa:p a with
   |true=>
    rw[if_pos rfl,if_pos (h a (List.mem_cons_self ..) pa)]
    simpa using lt
   |false=>
    rw[if_neg (by simp)]
    split
    ·simp only[List.length_cons];omega
    ·exact lt
def Low(s:Scheme):Prop:=∀c∈s.contacts,c.a<64∧c.b<64
theorem Yk{x:State}:∀(cs:List Contact),(∀c∈cs,c.a<64∧c.b<64)→∀m k,(cs.foldl (one x) m).testBit k=true→m.testBit k=true∨k<64
 | [],_,_,_,h=>.inl h
 |c::r,hc,m,k,h=>by
  have hm:=hc c (List.mem_cons_self ..)
  rcases Yk r (fun d hd=>hc d (List.mem_cons_of_mem _ hd)) _ k h with z|z
  ·unfold one at z
   split at z
   ·rw[uE,Bool.or_eq_true,Bool.or_eq_true,decide_eq_true_eq,decide_eq_true_eq] at z
    rcases z with(z|z)|z
    ·exact .inl z
    ·exact .inr (by omega)
    ·exact .inr (by omega)
   ·exact .inl z
  ·exact .inr z
theorem VL{s:Scheme}{x:State}{m:Nat}(h:spread s x m=m):∀n,rounds s x n m=m
 |0=>rfl
 |n+1=>by
  show rounds s x n (spread s x m)=m
  rw[h]
  exact VL h n
theorem Vb{s:Scheme}{x:State}(low:Low s):∀(n m:Nat),spread s x (rounds s x n m)=rounds s x n m∨kY m+n≤kY (rounds s x n m)
 |0,m=>.inr (by simp[rounds])
 |n+1,m=>by
  by_cases e:spread s x m=m
  ·left
   show spread s x (rounds s x n (spread s x m))=rounds s x n (spread s x m)
   rw[e,VL e]
   exact e
  ·rcases Vb low n (spread s x m) with z|z
   ·exact .inl z
   ·right
    show kY m+(n+1)≤kY (rounds s x n (spread s x m))
    have lt:kY m<kY (spread s x m):=by
     unfold kY
     refine filter_lt _ (fun k _ hk=>Ia s x m k hk) ?_
     refine Decidable.byContradiction fun no=>e ?_
     refine Nat.eq_of_testBit_eq fun k=>?_
     cases q:m.testBit k with
     |true=>exact Ia s x m k q
     |false=>
      cases q2:(spread s x m).testBit k with
      |false=>rfl
      |true=>
       refine absurd ⟨k,?_,q2,q⟩ no
       rcases Yk s.contacts low m k q2 with z|z
       ·rw[q] at z;cases z
       ·exact List.mem_range.mpr z
    omega
theorem ahs{s:Scheme}(low:Low s)(x:State):spread s x (liveNodes s x)=liveNodes s x:=by
 rcases Vb (x:=x) low NODES 1 with z|z
 ·exact z
 ·have h1:=aiD (rounds s x NODES 1)
  have h2:kY 1=1:=by decide+kernel
  have h3:NODES=64:=rfl
  omega
theorem Vc(s:Scheme)(x:State):∀(n m k:Nat),m.testBit k=true→(rounds s x n m).testBit k=true
 |0,_,_,h=>h
 |n+1,m,k,h=>Vc s x n _ k (Ia s x m k h)
theorem aht{s:Scheme}(low:Low s)(x:State)(k:Nat):(liveNodes s x).testBit k=true↔je s x k:=by
 constructor
 ·refine Ud NODES 1 (fun k hk=>?_) k
  have:k=0:=by
   have e:(1:Nat)=2^0:=rfl
   rw[e,Nat.testBit_two_pow,decide_eq_true_eq] at hk
   exact hk.symm
  subst this
  exact .zero
 ·intro h
  induction h with
  |zero=>exact Vc s x NODES 1 0 (by decide)
  |step _ ad ih=>
   obtain⟨c,hc,hcl,hab⟩:=ad
   have fx:=ahs low x
   have:=Yj x s.contacts (liveNodes s x) (fun k hk=>by
    have e:s.contacts.foldl (one x) (liveNodes s x)=liveNodes s x:=fx
    rw[e] at hk
    exact hk) c hc hcl
   rcases hab with⟨h1,h2⟩|⟨h1,h2⟩
   ·rw[←h2];exact(this (.inl (by rw[h1];exact ih))).2
   ·rw[←h2];exact(this (.inr (by rw[h1];exact ih))).1
end ML
namespace MB
open Rung
theorem lZ(x v:Nat):State.on x v=x.testBit v:=by
 unfold State.on
 rw[Nat.testBit_eq_decide_div_mod_eq]
 rfl
def sumBits(p:Nat→Bool)(n:Nat):Nat:=((List.range n).filter p).foldl (fun(a v:Nat)=>a+2^v) 0
theorem tL(p:Nat→Bool)(n:Nat):sumBits p (n+1)=if p n=true then sumBits p n+2^n else sumBits p n:=by
 unfold sumBits
 rw[List.range_succ,List.filter_append,List.foldl_append]
 cases h:p n<;>simp[h]
theorem qH(p:Nat→Bool):∀n,sumBits p n<2^n
 |0=>by simp[sumBits]
 |n+1=>by
  have ih:=qH p n
  rw[tL,Nat.pow_succ]
  split<;>omega
theorem jF(p:Nat→Bool):∀n k,(sumBits p n).testBit k=(decide (k<n)&&p k)
 |0,k=>by simp[sumBits]
 |n+1,k=>by
  have ih:=jF p n k
  have lt:=qH p n
  rw[tL]
  by_cases hp:p n=true
  ·rw[if_pos hp,Nat.add_comm]
   by_cases hk:k=n
   ·subst hk
    rw[Nat.testBit_two_pow_add_eq,Nat.testBit_lt_two_pow lt]
    simp[hp]
   ·by_cases hlt:k<n
    ·rw[Nat.testBit_two_pow_add_gt hlt,ih]
     simp[hlt,Nat.lt_succ_of_lt hlt]
    ·have hle:2^n+sumBits p n<2^k:=by
      have h1:2^(n+1)≤2^k:=Nat.pow_le_pow_right (by decide) (by omega)
      rw[Nat.pow_succ] at h1
      omega
     rw[Nat.testBit_lt_two_pow hle]
     have:¬k<n+1:=by omega
     simp[this]
  ·rw[if_neg hp,ih]
   by_cases hk:k=n
   ·subst hk
    have:p k=false:=by simpa using hp
    simp[this]
   ·by_cases hlt:k<n
    ·simp[hlt,Nat.lt_succ_of_lt hlt]
    ·have:¬k<n+1:=by omega
     simp[hlt,this]
def maskOf(s:Scheme):Nat:=sumBits s.hasVar 32
theorem Yl(s:Scheme)(x:Nat):s.clean x=x&&& maskOf s:=by
 refine Nat.eq_of_testBit_eq fun k=>?_
 have e:s.clean x=sumBits (fun v=>s.hasVar v&&State.on x v) 32:=rfl
 rw[e,jF,Nat.testBit_and,maskOf,jF,lZ]
 cases x.testBit k<;>simp
theorem JG(s:Scheme):maskOf s<2^32:=qH _ _
theorem Le(x v:Nat):x&&& 2^v=if x.testBit v=true then 2^v else 0:=by
 refine Nat.eq_of_testBit_eq fun k=>?_
 rw[Nat.testBit_and,Nat.testBit_two_pow]
 by_cases h:v=k
 ·subst h
  cases hx:x.testBit v with
  |true=>rw[if_pos rfl];simp
  |false=>rw[if_neg (by simp)];simp
 ·split<;>simp[h,Nat.testBit_two_pow]
theorem VN(m:Nat):∀n:Nat,(m ||| n)+(m&&& n)=m+n:=by
 induction m using Nat.strongRecOn with
 |_ m ih=>
  intro n
  by_cases h0:m=0
  ·subst h0
   simp
  ·have i:=ih (m / 2) (by omega) (n / 2)
   rw[←Nat.or_div_two,←Nat.and_div_two] at i
   have o1:=@Nat.or_mod_two_eq_one m n
   have a1:=@Nat.and_mod_two_eq_one m n
   omega
theorem uO(x v:Nat):x ||| 2^v=if x.testBit v=true then x else x+2^v:=by
 by_cases h:x.testBit v=true
 ·rw[if_pos h]
  refine Nat.eq_of_testBit_eq fun k=>?_
  rw[Nat.testBit_or,Nat.testBit_two_pow]
  by_cases e:v=k
  ·subst e;simp[h]
  ·simp[e]
 ·rw[if_neg h]
  have h':x.testBit v=false:=by simpa using h
  have e:=VN x (2^v)
  have a:=Le x v
  rw[if_neg h] at a
  omega
theorem ahu(x j:Nat):put x j true=x ||| 2^(16+j):=by
 unfold put turned
 rw[lZ,uO]
 cases h:x.testBit (16+j)<;>simp
theorem agu(x j:Nat):put x j false=x - (x&&& 2^(16+j)):=by
 unfold put turned
 rw[lZ,Le]
 cases h:x.testBit (16+j)<;>simp
theorem ajR(x m:Nat):x&&& m≤x:=Nat.and_le_left
end MB
namespace MP
open Rung
theorem zY{x v:Nat}(h:x.testBit v=true):x=(x - 2^v) ||| 2^v∧(x - 2^v).testBit v=false:=by
 have hb:x / 2^v % 2=1:=by rw[Nat.testBit_eq_decide_div_mod_eq] at h;simpa using h
 have hp:0<2^v:=Nat.two_pow_pos v
 have hle:2^v≤x:=by
  rcases Nat.lt_or_ge x (2^v) with z|z
  ·rw[Nat.div_eq_of_lt z] at hb
   cases hb
  ·exact z
 have hd:(x - 2^v) / 2^v=x / 2^v - 1:=by
  have:=Nat.sub_mul_div x (2^v) 1
  simpa using this
 have hf:(x - 2^v).testBit v=false:=by
  rw[Nat.testBit_eq_decide_div_mod_eq,hd]
  have:(x / 2^v - 1) % 2=0:=by omega
  rw[this]
  rfl
 refine⟨?_,hf⟩
 rw[MB.uO,if_neg (by rw[hf];simp)]
 omega
theorem Zo{x v:Nat}(h:x.testBit v=false):x+2^v=x ||| 2^v:=by rw[MB.uO,if_neg (by rw[h];simp)]
theorem tV(x v k:Nat):(turned x v).testBit k=if k=v then !x.testBit v else x.testBit k:=by
 unfold turned
 rw[MB.lZ]
 cases c:x.testBit v with
 |true=>
  rw[if_pos rfl]
  obtain⟨h1,h2⟩:=zY c
  by_cases e:k=v
  ·rw[e,if_pos rfl,h2];rfl
  ·rw[if_neg e]
   conv=>rhs;rw[h1,Nat.testBit_or,Nat.testBit_two_pow,decide_eq_false (fun z=>e z.symm),Bool.or_false]
 |false=>
  rw[if_neg (by simp),Zo c,Nat.testBit_or,Nat.testBit_two_pow]
  by_cases e:k=v
  ·rw[e,if_pos rfl,c];simp
  ·rw[if_neg e,decide_eq_false (fun z=>e z.symm),Bool.or_false]
theorem uF(x j v:Nat)(b:Bool):(Rung.put x j b).testBit v=if v=16+j then b else x.testBit v:=by
 unfold Rung.put
 rw[MB.lZ]
 by_cases c:x.testBit (16+j)=b
 ·rw[if_pos c]
  by_cases e:v=16+j
  ·rw[e,if_pos rfl,c]
  ·rw[if_neg e]
 ·rw[if_neg c,tV]
  by_cases e:v=16+j
  ·rw[if_pos e,if_pos e]
   cases h:x.testBit (16+j)<;>cases b<;>simp_all
  ·rw[if_neg e,if_neg e]
theorem afn(x v:Nat):turned x v=x^^^2^v:=by
 refine Nat.eq_of_testBit_eq fun k=>?_
 rw[tV,Nat.testBit_xor,Nat.testBit_two_pow]
 by_cases e:k=v
 ·rw[if_pos e,e];simp
 ·rw[if_neg e,decide_eq_false (fun z=>e z.symm)];simp
theorem zA:∀(l:List Nat) (x v:Nat),l.Nodup→(turn x l).testBit v=if 16≤v∧v - 16∈l then !x.testBit v else x.testBit v
 | [],x,v,_=>by simp[turn]
 |j::r,x,v,nd=>by
  have hn:=List.nodup_cons.mp nd
  show(turn (turned x (16+j)) r).testBit v=_
  rw[zA r _ v hn.2,tV]
  by_cases e:v=16+j
  ·have hm:v - 16=j:=by omega
   rw[if_neg (fun z=>hn.1 (by rw[←hm];exact z.2)),if_pos e,if_pos ⟨by omega,by rw[hm];exact List.mem_cons_self ..⟩,e]
  ·rw[if_neg e]
   by_cases h:16≤v∧v - 16∈r
   ·rw[if_pos h,if_pos ⟨h.1,List.mem_cons_of_mem _ h.2⟩]
   ·rw[if_neg h,if_neg]
    rintro⟨h1,h2⟩
    rcases List.mem_cons.mp h2 with z|z
    ·exact e (by omega)
    ·exact h ⟨h1,z⟩
def Agree(r:Nat)(x y:Nat):Prop:=∀v,(v<16∨16+r≤v)→x.testBit v=y.testBit v
theorem Agree.refl(r x:Nat):Agree r x x:=fun _ _=>rfl
theorem Agree.trans{r x y z:Nat}(h:Agree r x y)(g:Agree r y z):Agree r x z:=fun v hv=>(h v hv).trans (g v hv)
theorem Agree.symm{r x y:Nat}(h:Agree r x y):Agree r y x:=fun v hv=>(h v hv).symm
theorem agv{r x j:Nat}(b:Bool)(h:j<r):Agree r x (Rung.put x j b):=fun v hv=>by
 rw[uF,if_neg (by omega)]
theorem afo(s:Scheme)(x j:Nat):Agree s.relays.length x (rung s x j):=by
 unfold rung
 split
 ·rename_i r h
  exact agv _ (List.getElem?_eq_some_iff.mp h).1
 ·exact Agree.refl _ _
theorem VP(s:Scheme):∀(o:List Nat) (x:Nat),Agree s.relays.length x (pass s o x)
 | [],x=>Agree.refl _ x
 |j::r,x=>(afo s x j).trans (VP s r (rung s x j))
theorem lG:∀(n:Nat) (l:List Nat),l.Nodup→(∀x∈l,x<n)→l.length≤n
 |0,l,_,h=>by
  cases l with
  |nil=>simp
  |cons a r=>exact absurd (h a (List.mem_cons_self ..)) (by omega)
 |n+1,l,nd,h=>by
  by_cases hm:n∈l
  ·have h1:=lG n (l.erase n) (nd.erase n) fun x hx=>by
    have hx':=(nd.mem_erase_iff).mp hx
    have:=h x hx'.2
    have:=hx'.1
    omega
   have h2:=List.length_erase_of_mem hm
   omega
  ·have h1:=lG n l nd fun x hx=>by
    have:=h x hx
    have:x≠n:=fun e=>hm (by rw[←e];exact hx)
    omega
   omega
def pat(r x:Nat):Nat:=x / 2^16 % 2^r
theorem ajS(r x:Nat):pat r x<2^r:=Nat.mod_lt _ (Nat.two_pow_pos r)
theorem aiE(r x k:Nat):(pat r x).testBit k=(decide (k<r)&&x.testBit (16+k)):=by
 unfold pat
 rw[Nat.testBit_mod_two_pow,Nat.testBit_div_two_pow,Nat.add_comm]
theorem aiF{r x y:Nat}(h:Agree r x y)(e:pat r x=pat r y):x=y:=by
 refine Nat.eq_of_testBit_eq fun v=>?_
 by_cases c:v<16∨16+r≤v
 ·exact h v c
 ·have:=congrArg (fun n=>n.testBit (v - 16)) e
  simp only[aiE] at this
  rw[decide_eq_true (by omega:v - 16<r),Bool.true_and,Bool.true_and,show 16+(v - 16)=v by omega] at this
  exact this
theorem rD{r x:Nat}{l:List Nat}(nd:l.Nodup)(h:∀y∈l,Agree r x y):l.length≤2^r:=by
 have:=lG (2^r) (l.map (pat r)) ?_ ?_
 ·rwa [List.length_map] at this
 ·rw[List.Nodup,List.pairwise_map]
  exact List.Pairwise.imp_of_mem (fun {a b} ha hb ne e=>ne (aiF ((h a ha).symm.trans (h b hb)) e)) nd
 ·intro p hp
  obtain⟨y,_,rfl⟩:=List.mem_map.mp hp
  exact ajS r y
theorem Ib(n k:Nat):∀l:List Nat,k∈insertN n l↔k=n∨k∈l
 | []=>by simp[insertN]
 |m::r=>by
  unfold insertN
  split
  ·rw[List.mem_cons,Ib n k r,List.mem_cons]
   constructor
   ·rintro(h|h|h)<;>simp[h]
   ·rintro(h|h|h)<;>simp[h]
  ·split
   ·rename_i e
    subst e
    rw[List.mem_cons]
    constructor
    ·rintro(h|h)<;>simp[h]
    ·rintro(h|h|h)<;>simp[h]
   ·rw[List.mem_cons]
theorem lC(k:Nat):∀l:List Nat,k∈ordered l↔k∈l
 | []=>by simp[ordered]
 |m::r=>by
  show k∈insertN m (ordered r)↔_
  rw[Ib,lC k r,List.mem_cons]
theorem R8(n:Nat):∀l:List Nat,l.Pairwise (· < ·)→(insertN n l).Pairwise (· < ·)
 | [],_=>by simp[insertN]
 |m::r,h=>by
  have hc:=List.pairwise_cons.mp h
  unfold insertN
  split
  ·rename_i hlt
   refine List.pairwise_cons.mpr ⟨fun k hk=>?_,R8 n r hc.2⟩
   rcases(Ib n k r).mp hk with z|z
   ·rw[z];exact hlt
   ·exact hc.1 k z
  ·split
   ·exact h
   ·refine List.pairwise_cons.mpr ⟨fun k hk=>?_,h⟩
    rcases List.mem_cons.mp hk with z|z
    ·omega
    ·have:=hc.1 k z
     omega
theorem FW:∀l:List Nat,(ordered l).Pairwise (· < ·)
 | []=>List.Pairwise.nil
 |m::r=>R8 m _ (FW r)
theorem tW:∀{l m:List Nat},l.Pairwise (· < ·)→m.Pairwise (· < ·)→(∀k,k∈l↔k∈m)→l=m
 | [],[],_,_,_=>rfl
 | [],b::m,_,_,h=>absurd ((h b).mpr (List.mem_cons_self ..)) (by simp)
 |a::l,[],_,_,h=>absurd ((h a).mp (List.mem_cons_self ..)) (by simp)
 |a::l,b::m,hl,hm,h=>by
  have h1:=List.pairwise_cons.mp hl
  have h2:=List.pairwise_cons.mp hm
  have e:a=b:=by
   rcases List.mem_cons.mp ((h a).mp (List.mem_cons_self ..)) with z|z
   ·exact z
   ·rcases List.mem_cons.mp ((h b).mpr (List.mem_cons_self ..)) with y|y
    ·exact y.symm
    ·have:=h1.1 b y
     have:=h2.1 a z
     omega
  subst e
  congr 1
  refine tW h1.2 h2.2 fun k=>?_
  constructor
  ·intro hk
   rcases List.mem_cons.mp ((h k).mp (List.mem_cons_of_mem _ hk)) with z|z
   ·have:=h1.1 k hk
    omega
   ·exact z
  ·intro hk
   rcases List.mem_cons.mp ((h k).mpr (List.mem_cons_of_mem _ hk)) with z|z
   ·have:=h2.1 k hk
    omega
   ·exact z
theorem yd{l:List Nat}(h:l.Pairwise (· < ·)):l.Nodup:=h.imp fun h=>by omega
def aX(f:Nat→Nat)(x:Nat):Nat→Nat
 |0=>x
 |n+1=>f (aX f x n)
structure Loop(f:Nat→Nat)(x m p:Nat):Prop where
 le:p≤m
 dif:∀i j,i<j→j≤m→aX f x i≠aX f x j
 back:aX f x (m+1)=aX f x p
theorem Loop.unique{f:Nat→Nat}{x m p m' p':Nat}(h:Loop f x m p)(h':Loop f x m' p'):m=m'∧p=p':=by
 have e:m=m':=by
  rcases Nat.lt_trichotomy m m' with z|z|z
  ·exact absurd h.back.symm (h'.dif p (m+1) (by have:=h.le;omega) (by omega))
  ·exact z
  ·exact absurd h'.back.symm (h.dif p' (m'+1) (by have:=h'.le;omega) (by omega))
 subst e
 refine⟨rfl,?_⟩
 have e2:aX f x p=aX f x p':=h.back.symm.trans h'.back
 have:=h.le
 have:=h'.le
 rcases Nat.lt_trichotomy p p' with z|z|z
 ·exact absurd e2 (h.dif p p' z (by omega))
 ·exact z
 ·exact absurd e2.symm (h.dif p' p z (by omega))
theorem ug{s:Scheme}{o:List Nat}{x:Nat}:∀n,Agree s.relays.length x (aX (pass s o) x n)
 |0=>Agree.refl _ _
 |n+1=>(ug n).trans (VP s o _)
def had(f:Nat→Nat)(x:Nat):Nat→List Nat
 |0=>[x]
 |k+1=>aX f x (k+1)::had f x k
theorem zZ(f:Nat→Nat)(x:Nat):∀k,(had f x k).length=k+1
 |0=>rfl
 |k+1=>by rw[had,List.length_cons,zZ f x k]
theorem ahv(f:Nat→Nat)(x:Nat):∀k,(had f x k).headD 0=aX f x k
 |0=>rfl
 |_+1=>rfl
theorem Lf(f:Nat→Nat)(x:Nat):∀k,(had f x k).reverse=(List.range (k+1)).map (aX f x)
 |0=>rfl
 |k+1=>by rw[had,List.reverse_cons,Lf f x k,List.range_succ (n:=k+1),List.map_append];rfl
theorem z6(f:Nat→Nat)(x y k:Nat):y∈had f x k↔∃i,i≤k∧aX f x i=y:=by
 rw[←List.mem_reverse,Lf,List.mem_map]
 constructor
 ·rintro⟨i,h,e⟩
  exact⟨i,by have:=List.mem_range.mp h;omega,e⟩
 ·rintro⟨i,h,e⟩
  exact⟨i,List.mem_range.mpr (by omega),e⟩
theorem JH{f:Nat→Nat}{x:Nat}:∀k,(∀i j,i<j→j≤k→aX f x i≠aX f x j)→(had f x k).Nodup
 |0,_=>by simp[had]
 |k+1,h=>by
  rw[had,List.nodup_cons]
  refine⟨fun hm=>?_,JH k fun i j h1 h2=>h i j h1 (by omega)⟩
  obtain⟨i,hi,e⟩:=(z6 f x _ k).mp hm
  exact h i (k+1) (by omega) (Nat.le_refl _) e
theorem Ym(f:Nat→Nat)(x y:Nat):∀k,(∀i j,i<j→j≤k→aX f x i≠aX f x j)→∀p,p≤k→aX f x p=y→(had f x k).findIdx? (fun z=>z==y)=some (k - p)
 |0,_,p,hp,e=>by
  have:p=0:=by omega
  subst this
  have e:x=y:=e
  simp[had,e]
 |k+1,h,p,hp,e=>by
  rw[had,List.findIdx?_cons]
  by_cases c:p=k+1
  ·subst c
   rw[if_pos (by simp[e])]
   simp
  ·have ne:aX f x (k+1)≠y:=fun z=>h p (k+1) (by omega) (Nat.le_refl _) (e.trans z.symm)
   rw[if_neg (by simpa using ne),Ym f x y k (fun i j h1 h2=>h i j h1 (by omega)) p (by omega) e]
   simp
   omega
theorem ahw(f:Nat→Nat)(x y k:Nat)(h:∀i,i≤k→aX f x i≠y):(had f x k).findIdx? (fun z=>z==y)=none:=by
 rw[List.findIdx?_eq_none_iff]
 intro z hz
 obtain⟨i,hi,e⟩:=(z6 f x z k).mp hz
 simpa [←e] using h i hi
theorem Zq(s:Scheme)(o:List Nat)(x:Nat):∀(g k:Nat),g+k=2^s.relays.length→(∀i j,i<j→j≤k→aX (pass s o) x i≠aX (pass s o) x j)→
 ∃m p,Loop (pass s o) x m p∧scanFrom s o g (had (pass s o) x k)=((List.range (m+1)).map (aX (pass s o) x),p)
 |0,k,hk,h=>by
  have:=rD (JH k h) (x:=x) (r:=s.relays.length) fun y hy=>by
   obtain⟨i,_,rfl⟩:=(z6 _ x y k).mp hy
   exact ug i
  rw[zZ] at this
  omega
 |g+1,k,hk,h=>by
  unfold scanFrom
  rw[ahv]
  dsimp only
  show ∃m p,Loop (pass s o) x m p∧(match(had (pass s o) x k).findIdx? fun(z:State)=>z==aX (pass s o) x (k+1) with
   |some i=>((had (pass s o) x k).reverse,(had (pass s o) x k).length - 1 - i)
   |none=>scanFrom s o g (had (pass s o) x (k+1)))=_
  by_cases c:∃p,p≤k∧aX (pass s o) x p=aX (pass s o) x (k+1)
  ·obtain⟨p,hp,e⟩:=c
   rw[Ym _ x _ k h p hp e]
   refine⟨k,p,⟨hp,h,e.symm⟩,?_⟩
   dsimp only
   rw[Lf,zZ]
   congr 1
   omega
  ·rw[ahw _ x _ k fun i hi e=>c ⟨i,hi,e⟩]
   exact Zq s o x g (k+1) (by omega) fun i j h1 h2=>by
    by_cases ej:j=k+1
    ·subst ej
     exact fun e=>c ⟨i,by omega,e⟩
    ·exact h i j h1 (by omega)
theorem Lh(s:Scheme)(o:List Nat)(x:Nat):∃m p,Loop (pass s o) x m p∧scan s o x=((List.range (m+1)).map (aX (pass s o) x),p):=
 Zq s o x (2^s.relays.length) 0 rfl fun i j h1 h2=>by omega
theorem scan_of{s:Scheme}{o:List Nat}{x m p:Nat}(h:Loop (pass s o) x m p):scan s o x=((List.range (m+1)).map (aX (pass s o) x),p):=by
 obtain⟨m',p',h',e⟩:=Lh s o x
 obtain⟨rfl,rfl⟩:=h.unique h'
 exact e
theorem Li{s:Scheme}{o:List Nat}{x m p:Nat}(h:Loop (pass s o) x m p):m<2^s.relays.length:=by
 have:=rD (JH m h.dif) (x:=x) (r:=s.relays.length) fun y hy=>by
  obtain⟨i,_,rfl⟩:=(z6 _ x y m).mp hy
  exact ug i
 rw[zZ] at this
 omega
theorem yK{s:Scheme}{o:List Nat}{x m p:Nat}(h:Loop (pass s o) x m p):scanned s o x=if p=m then some (aX (pass s o) x m,m) else none:=by
 unfold scanned
 rw[scan_of h]
 dsimp only
 rw[List.length_map,List.length_range]
 by_cases c:p=m
 ·rw[if_pos (by omega),if_pos c,List.range_succ,List.map_append,List.map_cons,List.map_nil,c]
  congr 2
  simp
 ·rw[if_neg (by omega),if_neg c]
theorem Tn{s:Scheme}{o:List Nat}{x m p:Nat}(h:Loop (pass s o) x m p):comesRound s o x=if p=m then none else some (p,((List.range (m+1)).map (aX (pass s o) x)).drop p):=by
 unfold comesRound
 rw[scan_of h]
 dsimp only
 rw[List.length_map,List.length_range]
 by_cases c:p=m
 ·rw[if_pos (by omega),if_pos c]
 ·rw[if_neg (by omega),if_neg c]
theorem uh:∀(l p:List Nat),p∈parts l↔p.Sublist l
 | [],p=>by simp[parts]
 |j::r,p=>by
  unfold parts
  rw[List.mem_flatMap]
  constructor
  ·rintro⟨q,hq,h⟩
   have hs:=(uh r q).mp hq
   rcases List.mem_cons.mp h with e|e
   ·subst e
    exact hs.cons j
   ·have e:=List.mem_singleton.mp e
    subst e
    exact hs.cons_cons j
  ·intro h
   cases h with
   |cons _ h=>exact⟨p,(uh r p).mpr h,List.mem_cons_self ..⟩
   |cons_cons _ h=>exact⟨_,(uh r _).mpr h,by simp⟩
theorem Tp(s:Scheme)(x j:Nat):j∈unsettled s x↔∃r,s.relays[j]? =some r∧(liveNodes s x).testBit r.node≠x.testBit (16+j):=by
 unfold unsettled
 dsimp only
 rw[List.mem_map]
 constructor
 ·rintro⟨⟨r,i⟩,h,rfl⟩
  obtain⟨h1,h2⟩:=List.mem_filter.mp h
  rw[MB.lZ] at h2
  exact⟨r,List.mem_zipIdx_iff_getElem?.mp h1,by simpa using h2⟩
 ·rintro⟨r,h1,h2⟩
  refine⟨(r,j),List.mem_filter.mpr ⟨List.mem_zipIdx_iff_getElem?.mpr h1,?_⟩,rfl⟩
  rw[MB.lZ]
  simpa using h2
theorem afp{α:Type}:∀(l:List α) (k:Nat),((l.zipIdx k).map fun u=>u.2).Pairwise (· < ·):=by
 intro l k
 rw[List.zipIdx_map_snd]
 exact List.pairwise_lt_range'
theorem acf(s:Scheme)(x:Nat):(unsettled s x).Pairwise (· < ·):=by
 unfold unsettled
 dsimp only
 have:=afp s.relays 0
 rw[List.pairwise_map] at this⊢
 exact this.sublist List.filter_sublist
theorem tM{s:Scheme}{x j:Nat}(h:j∈unsettled s x):j<s.relays.length:=by
 obtain⟨r,h1,_⟩:=(Tp s x j).mp h
 exact(List.getElem?_eq_some_iff.mp h1).1
theorem ahx(s:Scheme)(x:Nat):rest s x=true↔∀j,j∉unsettled s x:=by
 unfold rest
 rw[List.isEmpty_iff]
 constructor
 ·intro h j
  rw[h]
  simp
 ·intro h
  cases e:unsettled s x with
  |nil=>rfl
  |cons a r=>exact absurd (by rw[e];exact List.mem_cons_self ..) (h a)
theorem um(s:Scheme)(x y:Nat):y∈moves s x↔y≠x∧∀v,y.testBit v≠x.testBit v→16≤v∧v - 16∈unsettled s x:=by
 unfold moves
 rw[lC,List.mem_map]
 have nd:=yd (acf s x)
 constructor
 ·rintro⟨p,hp,rfl⟩
  obtain⟨h1,h2⟩:=List.mem_filter.mp hp
  have hs:=(uh _ _).mp h1
  have hnd:=nd.sublist hs
  constructor
  ·intro e
   cases p with
   |nil=>simp at h2
   |cons j r=>
    have:=congrArg (fun n=>Nat.testBit n (16+j)) e
    rw[zA _ _ _ hnd,if_pos ⟨by omega,by simp⟩] at this
    cases h:x.testBit (16+j)<;>simp[h] at this
  ·intro v hv
   rw[zA _ _ _ hnd] at hv
   by_cases c:16≤v∧v - 16∈p
   ·exact⟨c.1,hs.subset c.2⟩
   ·rw[if_neg c] at hv
    exact absurd rfl hv
 ·rintro⟨ne,h⟩
  refine⟨(unsettled s x).filter fun j=>y.testBit (16+j) != x.testBit (16+j),List.mem_filter.mpr ⟨(uh _ _).mpr List.filter_sublist,?_⟩,?_⟩
  ·simp only[bne_iff_ne,ne_eq]
   intro e
   refine ne (Nat.eq_of_testBit_eq fun v=>?_)
   by_cases c:y.testBit v=x.testBit v
   ·exact c
   ·obtain⟨h1,h2⟩:=h v c
    have:v - 16∈(unsettled s x).filter fun j=>y.testBit (16+j) != x.testBit (16+j):=List.mem_filter.mpr ⟨h2,by rw[show 16+(v - 16)=v by omega];simpa using c⟩
    rw[e] at this
    simp at this
  ·refine Nat.eq_of_testBit_eq fun v=>?_
   rw[zA _ _ _ (nd.sublist List.filter_sublist)]
   by_cases c:y.testBit v=x.testBit v
   ·rw[if_neg,c]
    rintro⟨h1,h2⟩
    have:=(List.mem_filter.mp h2).2
    rw[show 16+(v - 16)=v by omega] at this
    simp[c] at this
   ·obtain⟨h1,h2⟩:=h v c
    rw[if_pos ⟨h1,List.mem_filter.mpr ⟨h2,by rw[show 16+(v - 16)=v by omega];simpa using c⟩⟩]
    cases h3:x.testBit v<;>cases h4:y.testBit v<;>simp_all
theorem aex{s:Scheme}{x y:Nat}(h:y∈moves s x):Agree s.relays.length x y:=fun v hv=>by
 obtain⟨_,h2⟩:=(um s x y).mp h
 by_cases c:y.testBit v=x.testBit v
 ·exact c.symm
 ·obtain⟨h3,h4⟩:=h2 v c
  have:=tM h4
  omega
theorem Jd{s:Scheme}{x:Nat}:rest s x=true↔moves s x=[]:=by
 rw[ahx]
 constructor
 ·intro h
  cases e:moves s x with
  |nil=>rfl
  |cons y r=>
   obtain⟨h1,h2⟩:=(um s x y).mp (by rw[e];exact List.mem_cons_self ..)
   refine absurd (Nat.eq_of_testBit_eq fun v=>?_) h1
   by_cases c:y.testBit v=x.testBit v
   ·exact c
   ·exact absurd (h2 v c).2 (h _)
 ·intro h j hj
  have:turned x (16+j)∈moves s x:=by
   rw[um]
   constructor
   ·intro e
    have:=congrArg (fun n=>n.testBit (16+j)) e
    simp only[tV] at this
    cases h:x.testBit (16+j)<;>simp[h] at this
   ·intro v hv
    rw[tV] at hv
    by_cases c:v=16+j
    ·exact⟨by omega,by rw[c,show 16+j - 16=j by omega];exact hj⟩
    ·rw[if_neg c] at hv
     exact absurd rfl hv
  rw[h] at this
  simp at this
def Walk(s:Scheme):Nat→Nat→Nat→Prop
 |0,x,y=>x=y
 |k+1,x,y=>∃z,z∈moves s x∧Walk s k z y
def Reach(s:Scheme)(x y:Nat):Prop:=∃k,Walk s k x y
theorem Walk.cat{s:Scheme}:∀{j k x y z:Nat},Walk s j x y→Walk s k y z→Walk s (j+k) x z
 |0,k,x,y,z,h,g=>by
  have h:x=y:=h
  subst h
  rw[Nat.zero_add]
  exact g
 |j+1,k,x,y,z,⟨u,hu,h⟩,g=>by
  rw[show j+1+k=(j+k)+1 by omega]
  exact⟨u,hu,Walk.cat h g⟩
theorem Walk.cut{s:Scheme}:∀{j k x z:Nat},Walk s (j+k) x z→∃y,Walk s j x y∧Walk s k y z
 |0,k,x,z,h=>⟨x,rfl,by rw[Nat.zero_add] at h;exact h⟩
 |j+1,k,x,z,h=>by
  rw[show j+1+k=(j+k)+1 by omega] at h
  obtain⟨u,hu,h⟩:=h
  obtain⟨y,h1,h2⟩:=Walk.cut h
  exact⟨y,⟨u,hu,h1⟩,h2⟩
theorem Walk.agree{s:Scheme}:∀{k x y:Nat},Walk s k x y→Agree s.relays.length x y
 |0,x,y,h=>by
  have h:x=y:=h
  subst h
  exact Agree.refl _ _
 |k+1,x,y,⟨u,hu,h⟩=>(aex hu).trans (Walk.agree h)
theorem Reach.refl(s:Scheme)(x:Nat):Reach s x x:=⟨0,rfl⟩
theorem Reach.trans{s:Scheme}{x y z:Nat}:Reach s x y→Reach s y z→Reach s x z
 |⟨j,h⟩,⟨k,g⟩=>⟨j+k,h.cat g⟩
theorem Reach.one{s:Scheme}{x y:Nat}(h:y∈moves s x):Reach s x y:=⟨1,y,h,rfl⟩
theorem Walk.places{s:Scheme}:∀{k x y:Nat},Walk s k x y→∃g:Nat→Nat,g 0=x∧g k=y∧∀i,i<k→g (i+1)∈moves s (g i)
 |0,x,y,h=>⟨fun _=>x,rfl,h,fun i hi=>by omega⟩
 |k+1,x,y,⟨u,hu,h⟩=>by
  obtain⟨g,h1,h2,h3⟩:=Walk.places h
  refine⟨fun i=>if i=0 then x else g (i - 1),rfl,?_,fun i hi=>?_⟩
  ·show g (k+1 - 1)=y
   exact h2
  ·by_cases c:i=0
   ·subst c
    show g 0∈moves s x
    rw[h1]
    exact hu
   ·show(if i+1=0 then x else g (i+1 - 1))∈moves s (if i=0 then x else g (i - 1))
    rw[if_neg c,if_neg (by omega)]
    have:=h3 (i - 1) (by omega)
    rw[show i - 1+1=i+1 - 1 by omega] at this
    exact this
theorem Zr{s:Scheme}{g:Nat→Nat}:∀(n i:Nat),(∀j,i≤j→j<i+n→g (j+1)∈moves s (g j))→Walk s n (g i) (g (i+n))
 |0,i,_=>rfl
 |n+1,i,h=>⟨g (i+1),h i (Nat.le_refl _) (by omega),by
  have:=Zr n (i+1) fun j h1 h2=>h j (by omega) (by omega)
  rw[show i+1+n=i+(n+1) by omega] at this
  exact this⟩
theorem yX{s:Scheme}{k x y:Nat}(h:Walk s k x y)(hk:2^s.relays.length≤k):∃z n,0<n∧Reach s x z∧Walk s n z z:=by
 obtain⟨g,h1,h2,h3⟩:=h.places
 have wk:∀i j,i≤j→j≤k→Walk s (j - i) (g i) (g j):=fun i j hij hj=>by
  have:=Zr (s:=s) (g:=g) (j - i) i fun m h4 h5=>h3 m (by omega)
  rw[show i+(j - i)=j by omega] at this
  exact this
 by_cases c:∃i j,i<j∧j≤k∧g i=g j
 ·obtain⟨i,j,hij,hj,e⟩:=c
  refine⟨g i,j - i,by omega,⟨i,?_⟩,?_⟩
  ·have:=wk 0 i (by omega) (by omega)
   rw[h1,Nat.sub_zero] at this
   exact this
  ·have:=wk i j (by omega) hj
   rw[←e] at this
   exact this
 ·have nd:((List.range (k+1)).map g).Nodup:=by
   rw[List.Nodup,List.pairwise_map]
   refine List.Pairwise.imp_of_mem (fun {a b} ha hb hlt e=>?_) List.pairwise_lt_range
   exact c ⟨a,b,hlt,by have:=List.mem_range.mp hb;omega,e⟩
  have:=rD nd (x:=x) (r:=s.relays.length) fun y hy=>by
   obtain⟨i,hi,rfl⟩:=List.mem_map.mp hy
   have:=wk 0 i (by omega) (by have:=List.mem_range.mp hi;omega)
   rw[h1] at this
   exact this.agree
  rw[List.length_map,List.length_range] at this
  omega
theorem agw{s:Scheme}{x z n:Nat}(hn:0<n)(h:Reach s x z)(r:Walk s n z z)(k:Nat):∃y,Walk s k x y:=by
 obtain⟨j,h⟩:=h
 have many:∀m,∃L,m≤L∧Walk s L x z:=by
  intro m
  induction m with
  |zero=>exact⟨j,by omega,h⟩
  |succ m ih=>
   obtain⟨L,h1,h2⟩:=ih
   exact⟨L+n,by omega,h2.cat r⟩
 obtain⟨L,h1,h2⟩:=many k
 rw[show L=k+(L - k) by omega] at h2
 obtain⟨y,h3,_⟩:=h2.cut
 exact⟨y,h3⟩
theorem zB(s:Scheme)(l:List Nat)(y:Nat):y∈ordered (l.flatMap (moves s))↔∃x∈l,y∈moves s x:=by
 rw[lC,List.mem_flatMap]
theorem Je(s:Scheme):∀(k:Nat) (l:List Nat) (y:Nat),y∈behind s k l↔∃x∈l,Walk s k x y
 |0,l,y=>by
  unfold behind
  constructor
  ·intro h
   exact⟨y,h,rfl⟩
  ·rintro⟨x,h,e⟩
   have e:x=y:=e
   rw[←e]
   exact h
 |k+1,l,y=>by
  unfold behind
  split
  ·rename_i h
   rw[List.isEmpty_iff] at h
   subst h
   simp
  ·rw[Je s k]
   constructor
   ·rintro⟨z,hz,h⟩
    obtain⟨x,hx,hm⟩:=(zB s l z).mp hz
    exact⟨x,hx,z,hm,h⟩
   ·rintro⟨x,hx,z,hm,h⟩
    exact⟨z,(zB s l z).mpr ⟨x,hx,hm⟩,h⟩
def Ring(s:Scheme)(x:Nat):Prop:=∃z n,0<n∧Reach s x z∧Walk s n z z
theorem Yn(s:Scheme)(x:Nat):ringMay s x=true↔Ring s x:=by
 unfold ringMay
 constructor
 ·intro h
  cases e:behind s (2^s.relays.length) [x] with
  |nil=>rw[e] at h;simp at h
  |cons y r=>
   obtain⟨x',hx,w⟩:=(Je s _ [x] y).mp (by rw[e];exact List.mem_cons_self ..)
   rw[List.mem_singleton.mp hx] at w
   exact yX w (Nat.le_refl _)
 ·rintro⟨z,n,hn,h,r⟩
  obtain⟨y,w⟩:=agw hn h r (2^s.relays.length)
  have:=(Je s _ [x] y).mpr ⟨x,by simp,w⟩
  cases e:behind s (2^s.relays.length) [x] with
  |nil=>rw[e] at this;simp at this
  |cons a b=>rfl
theorem W9(s:Scheme):∀(k:Nat) (l:List Nat) (y:Nat),y∈restsOf s k l↔rest s y=true∧∃x∈l,∃j,j≤k∧Walk s j x y
 |0,l,y=>by
  unfold restsOf
  rw[List.mem_filter]
  constructor
  ·rintro⟨h1,h2⟩
   exact⟨h2,y,h1,0,Nat.le_refl _,rfl⟩
  ·rintro⟨h,x,hx,j,hj,w⟩
   have:j=0:=by omega
   subst this
   have w:x=y:=w
   rw[←w] at h⊢
   exact⟨hx,h⟩
 |k+1,l,y=>by
  unfold restsOf
  rw[List.mem_append,List.mem_filter,W9 s k]
  constructor
  ·rintro(⟨h1,h2⟩|⟨h,z,hz,j,hj,w⟩)
   ·exact⟨h2,y,h1,0,Nat.zero_le _,rfl⟩
   ·obtain⟨x,hx,hm⟩:=(zB s l z).mp hz
    exact⟨h,x,hx,j+1,by omega,z,hm,w⟩
  ·rintro⟨h,x,hx,j,hj,w⟩
   cases j with
   |zero=>
    have w:x=y:=w
    rw[←w] at h⊢
    exact .inl ⟨hx,h⟩
   |succ j=>
    obtain⟨z,hm,w⟩:=w
    exact .inr ⟨h,z,(zB s l z).mpr ⟨x,hx,hm⟩,j,by omega,w⟩
theorem uo{s:Scheme}{x:Nat}(h:¬Ring s x)(y:Nat):y∈restsOf s (2^s.relays.length) [x]↔rest s y=true∧Reach s x y:=by
 rw[W9]
 constructor
 ·rintro⟨h1,x',hx,j,_,w⟩
  rw[List.mem_singleton.mp hx] at w
  exact⟨h1,j,w⟩
 ·rintro⟨h1,j,w⟩
  refine⟨h1,x,by simp,j,?_,w⟩
  rcases Nat.lt_or_ge (2^s.relays.length) j with z|z
  ·exact absurd (yX w (by omega)) h
  ·exact z
theorem aiG{s:Scheme}{x:Nat}(h:¬Ring s x):∃y,rest s y=true∧Reach s x y:=by
 by_cases c:∃y,rest s y=true∧Reach s x y
 ·exact c
 ·have many:∀k,∃y,Walk s k x y:=by
   intro k
   induction k with
   |zero=>exact⟨x,rfl⟩
   |succ k ih=>
    obtain⟨y,w⟩:=ih
    cases e:moves s y with
    |nil=>exact absurd ⟨y,Jd.mpr e,k,w⟩ c
    |cons z r=>exact⟨z,w.cat ⟨z,by rw[e];exact List.mem_cons_self ..,rfl⟩⟩
  obtain⟨y,w⟩:=many (2^s.relays.length)
  exact absurd (yX w (Nat.le_refl _)) h
theorem ahy{s:Scheme}{x:Nat}(h:Ring s x):whyNot s x=1:=by
 unfold whyNot
 rw[if_pos ((Yn s x).mpr h)]
theorem len_one{l:List Nat}(hs:l.Pairwise (· < ·)):l.length=1↔(∃y,y∈l)∧∀y z,y∈l→z∈l→y=z:=by
 match l,hs with
 | [],_=>simp
 | [a],_=>simp
 |a::b::r,hs=>
  simp only[List.length_cons]
  constructor
  ·intro h
   omega
  ·rintro⟨_,h⟩
   have:=h a b (by simp) (by simp)
   have:=(List.pairwise_cons.mp hs).1 b (by simp)
   omega
def One(s:Scheme)(x:Nat):Prop:=∀y z,rest s y=true→Reach s x y→rest s z=true→Reach s x z→y=z
theorem agx{s:Scheme}{x:Nat}(h:¬Ring s x):(One s x→whyNot s x=0)∧(¬One s x→whyNot s x=2):=by
 unfold whyNot One
 rw[if_neg (fun z=>h ((Yn s x).mp z))]
 have e:(ordered (restsOf s (2^s.relays.length) [x])).length=1↔∀y z,rest s y=true→Reach s x y→rest s z=true→Reach s x z→y=z:=by
  rw[len_one (FW _)]
  constructor
  ·rintro⟨_,g⟩ y z h1 h2 h3 h4
   exact g y z ((lC _ _).mpr ((uo h y).mpr ⟨h1,h2⟩)) ((lC _ _).mpr ((uo h z).mpr ⟨h3,h4⟩))
  ·intro g
   obtain⟨y,h1,h2⟩:=aiG h
   refine⟨⟨y,(lC _ _).mpr ((uo h y).mpr ⟨h1,h2⟩)⟩,fun a b ha hb=>?_⟩
   have ha:=(uo h a).mp ((lC _ _).mp ha)
   have hb:=(uo h b).mp ((lC _ _).mp hb)
   exact g a b ha.1 ha.2 hb.1 hb.2
 exact⟨fun z=>if_pos (e.mpr z),fun z=>if_neg fun c=>z (e.mp c)⟩
theorem Yo(s:Scheme)(v:Nat):v∈s.used↔v<32∧∃c∈s.contacts,c.var=v:=by
 unfold Scheme.used
 rw[List.mem_filter,List.mem_range,List.any_eq_true]
 simp
theorem Ie(s:Scheme):s.used.Pairwise (· < ·):=List.pairwise_lt_range.sublist List.filter_sublist
theorem Vd(n:Nat):∀(l:List Nat) (k:Nat),l.Pairwise (· < ·)→∀v,(sumN ((l.zipIdx k).map fun(u:Nat×Nat)=>if n.testBit u.2=true then 2^u.1 else 0)).testBit v=true↔∃i,l[i]? =some v∧n.testBit (k+i)=true
 | [],k,_,v=>by simp[sumN]
 |a::r,k,h,v=>by
  have hc:=List.pairwise_cons.mp h
  have ih:=Vd n r (k+1) hc.2
  rw[List.zipIdx_cons,List.map_cons]
  show((if n.testBit k=true then 2^a else 0)+sumN ((r.zipIdx (k+1)).map fun(u:Nat×Nat)=>if n.testBit u.2=true then 2^u.1 else 0)).testBit v=true↔_
  have nob:(sumN ((r.zipIdx (k+1)).map fun(u:Nat×Nat)=>if n.testBit u.2=true then 2^u.1 else 0)).testBit a=false:=by
   cases e:(sumN ((r.zipIdx (k+1)).map fun(u:Nat×Nat)=>if n.testBit u.2=true then 2^u.1 else 0)).testBit a with
   |false=>rfl
   |true=>
    obtain⟨i,hi,_⟩:=(ih a).mp e
    have:=hc.1 a (List.mem_of_getElem? hi)
    omega
  have step:(∃i,(a::r)[i]? =some v∧n.testBit (k+i)=true)↔(a=v∧n.testBit k=true)∨∃i,r[i]? =some v∧n.testBit (k+1+i)=true:=by
   constructor
   ·rintro⟨i,h1,h2⟩
    cases i with
    |zero=>exact .inl ⟨by simpa using h1,h2⟩
    |succ i=>exact .inr ⟨i,by simpa using h1,by rw[show k+1+i=k+(i+1) by omega];exact h2⟩
   ·rintro(⟨h1,h2⟩|⟨i,h1,h2⟩)
    ·exact⟨0,by simp[h1],h2⟩
    ·exact⟨i+1,by simpa using h1,by rw[show k+(i+1)=k+1+i by omega];exact h2⟩
  rw[step,←ih v]
  cases c:n.testBit k with
  |false=>simp
  |true=>
   rw[if_pos rfl,Nat.add_comm,Zo nob,Nat.testBit_or,Nat.testBit_two_pow]
   simp
   constructor<;>rintro(h|h)<;>simp[h]
theorem aaf{l:List Nat}(h:l.Pairwise (· < ·))(n v:Nat):(stateBy l n).testBit v=true↔∃i,l[i]? =some v∧n.testBit i=true:=by
 have:=Vd n l 0 h v
 unfold stateBy
 rw[this]
 simp
theorem akE{l:List Nat}(h:l.Pairwise (· < ·)){x:Nat}(hx:∀v,x.testBit v=true→v∈l):stateBy l (MB.sumBits (fun i=>x.testBit (l.getD i 0)) l.length)=x:=by
 refine Nat.eq_of_testBit_eq fun v=>?_
 rw[Bool.eq_iff_iff,aaf h]
 constructor
 ·rintro⟨i,h1,h2⟩
  rw[MB.jF,Bool.and_eq_true] at h2
  have:=h2.2
  rw[List.getD_eq_getElem?_getD,h1] at this
  exact this
 ·intro hv
  obtain⟨i,hi⟩:=List.getElem?_of_mem (hx v hv)
  refine⟨i,hi,?_⟩
  rw[MB.jF,decide_eq_true (List.getElem?_eq_some_iff.mp hi).1,Bool.true_and,List.getD_eq_getElem?_getD,hi]
  exact hv
theorem afq(s:Scheme)(x:Nat):x∈s.states↔∀v,x.testBit v=true→v∈s.used:=by
 unfold Scheme.states
 rw[List.mem_map]
 constructor
 ·rintro⟨n,_,rfl⟩ v hv
  obtain⟨i,hi,_⟩:=(aaf (Ie s) n v).mp hv
  exact List.mem_of_getElem? hi
 ·intro h
  exact⟨_,List.mem_range.mpr (MB.qH _ _),akE (Ie s) h⟩
theorem Zt{i:Nat}(hi:i≤16)(n v:Nat):(n % 2^i+65536*(n / 2^i)).testBit v=if v<16 then(decide (v<i)&&n.testBit v) else n.testBit (i+(v - 16)):=by
 have hlt:n % 2^i<2^16:=Nat.lt_of_lt_of_le (Nat.mod_lt _ (Nat.two_pow_pos i)) (Nat.pow_le_pow_right (by decide) hi)
 rw[show(65536:Nat)=2^16 from rfl,Nat.add_comm,Nat.testBit_two_pow_mul_add _ hlt]
 by_cases c:v<16
 ·rw[if_pos c,if_pos c,Nat.testBit_mod_two_pow]
 ·rw[if_neg c,if_neg c,Nat.testBit_div_two_pow,Nat.add_comm]
theorem Zu{s:Scheme}(hi:s.inputs.length≤16)(x:Nat):x∈allStates s↔∀v,x.testBit v=true→s.hasVar v=true:=by
 unfold allStates
 rw[List.mem_map]
 constructor
 ·rintro⟨n,hn,rfl⟩ v hv
  have hn:=List.mem_range.mp hn
  rw[Zt hi] at hv
  unfold Scheme.hasVar
  by_cases c:v<16
  ·rw[if_pos c,Bool.and_eq_true] at hv
   rw[hv.1]
   rfl
  ·rw[if_neg c] at hv
   have:s.inputs.length+(v - 16)<s.inputs.length+s.relays.length:=by
    rcases Nat.lt_or_ge (s.inputs.length+(v - 16)) (s.inputs.length+s.relays.length) with z|z
    ·exact z
    ·have h2:n<2^(s.inputs.length+(v - 16)):=Nat.lt_of_lt_of_le hn (Nat.pow_le_pow_right (by decide) z)
     rw[Nat.testBit_lt_two_pow h2] at hv
     cases hv
   simp
   right
   omega
 ·intro h
  refine⟨MB.sumBits (fun k=>if k<s.inputs.length then x.testBit k else x.testBit (16+(k - s.inputs.length))) (s.inputs.length+s.relays.length),List.mem_range.mpr (MB.qH _ _),?_⟩
  refine Nat.eq_of_testBit_eq fun v=>?_
  rw[Zt hi]
  have hv:x.testBit v=true→v<s.inputs.length∨(16≤v∧v - 16<s.relays.length):=fun z=>by
   have:=h v z
   unfold Scheme.hasVar at this
   simpa using this
  by_cases c:v<16
  ·rw[if_pos c,MB.jF]
   by_cases c2:v<s.inputs.length
   ·rw[decide_eq_true c2,decide_eq_true (by omega),if_pos c2]
    rfl
   ·rw[decide_eq_false c2,Bool.false_and]
    cases e:x.testBit v with
    |false=>rfl
    |true=>have:=hv e;omega
  ·rw[if_neg c,MB.jF,if_neg (by omega),show 16+(s.inputs.length+(v - 16) - s.inputs.length)=v by omega]
   by_cases c2:v - 16<s.relays.length
   ·rw[decide_eq_true (by omega),Bool.true_and]
   ·rw[decide_eq_false (by omega),Bool.false_and]
    cases e:x.testBit v with
    |false=>rfl
    |true=>have:=hv e;omega
theorem VR{s:Scheme}(hi:s.inputs.length≤16):(allStates s).Pairwise (· < ·):=by
 unfold allStates
 rw[List.pairwise_map]
 refine List.pairwise_lt_range.imp fun {a b} h=>?_
 have h1:a / 2^s.inputs.length≤b / 2^s.inputs.length:=Nat.div_le_div_right (Nat.le_of_lt h)
 have hp:=Nat.two_pow_pos s.inputs.length
 have h2:=Nat.mod_lt a hp
 have h3:=Nat.mod_lt b hp
 have h4:2^s.inputs.length≤65536:=Nat.le_trans (Nat.pow_le_pow_right (by decide) hi) (by decide:2^16≤65536)
 have h5:=Nat.div_add_mod a (2^s.inputs.length)
 have h6:=Nat.div_add_mod b (2^s.inputs.length)
 generalize 2^s.inputs.length=P at *
 have key:∀qa qb ra rb:Nat,qa≤qb→ra<P→rb<P→P≤65536→P*qa+ra=a→P*qb+rb=b→a<b→ra+65536*qa<rb+65536*qb:=by
  intro qa qb ra rb g1 g2 g3 g4 g5 g6 g7
  rcases Nat.lt_or_ge qa qb with z|z
  ·omega
  ·have e:qa=qb:=by omega
   subst e
   omega
 exact key _ _ _ _ h1 h2 h3 h4 h5 h6 h
theorem Jf:∀(k:Nat) (l o:List Nat),l.Nodup→l.length≤k→(o∈ordersOf k l↔o.Perm l)
 |0,l,o,_,hl=>by
  have:l=[]:=List.length_eq_zero_iff.mp (by omega)
  subst this
  simp[ordersOf]
 |k+1,l,o,nd,hl=>by
  unfold ordersOf
  split
  ·rename_i h
   rw[List.isEmpty_iff] at h
   subst h
   simp
  ·rw[List.mem_flatMap]
   have fl:∀j∈l,(l.filter fun i=>i != j).length≤k∧(l.filter fun i=>i != j).Nodup∧(j::l.filter fun i=>i != j).Perm l:=fun j hj=>by
    have hn:(l.filter fun i=>i != j)=l.erase j:=(nd.erase_eq_filter j).symm
    rw[hn]
    refine⟨?_,nd.erase j,(List.perm_cons_erase hj).symm⟩
    rw[List.length_erase_of_mem hj]
    omega
   constructor
   ·rintro⟨j,hj,h⟩
    obtain⟨o',h1,rfl⟩:=List.mem_map.mp h
    obtain⟨f1,f2,f3⟩:=fl j hj
    exact(((Jf k _ o' f2 f1).mp h1).cons j).trans f3
   ·intro h
    cases o with
    |nil=>
     rename_i hne
     have:=h.symm.eq_nil
     rw[this] at hne
     simp at hne
    |cons j r=>
     have hj:j∈l:=h.mem_iff.mp (List.mem_cons_self ..)
     obtain⟨f1,f2,f3⟩:=fl j hj
     exact⟨j,hj,List.mem_map.mpr ⟨r,(Jf k _ r f2 f1).mpr ((List.perm_cons j).mp (h.trans f3.symm)),rfl⟩⟩
theorem xT(s:Scheme)(o:List Nat):o∈allOrders s↔o.Perm (List.range s.relays.length):=Jf _ _ _ List.nodup_range (by rw[List.length_range];exact Nat.le_refl _)
theorem mem_some(s:Scheme)(x y:Nat):y∈(bySome s x).1↔∃o,o.Perm (List.range s.relays.length)∧∃n,scanned s o x=some (y,n):=by
 unfold bySome
 dsimp only
 rw[lC,List.mem_filterMap]
 constructor
 ·rintro⟨u,hu,h⟩
  obtain⟨o,ho,rfl⟩:=List.mem_map.mp hu
  obtain⟨⟨a,n⟩,h1,rfl⟩:=Option.map_eq_some_iff.mp h
  exact⟨o,(xT s o).mp ho,n,h1⟩
 ·rintro⟨o,ho,n,h⟩
  exact⟨_,List.mem_map.mpr ⟨o,(xT s o).mpr ho,rfl⟩,by rw[h];rfl⟩
theorem Ig(s:Scheme)(x:Nat):(bySome s x).1.Pairwise (· < ·):=FW _
theorem afr(s:Scheme)(x:Nat):(bySome s x).2=true↔∃o,o.Perm (List.range s.relays.length)∧scanned s o x=none:=by
 unfold bySome
 dsimp only
 rw[List.any_eq_true]
 constructor
 ·rintro⟨u,hu,h⟩
  obtain⟨o,ho,rfl⟩:=List.mem_map.mp hu
  exact⟨o,(xT s o).mp ho,by simpa using h⟩
 ·rintro⟨o,ho,h⟩
  exact⟨_,List.mem_map.mpr ⟨o,(xT s o).mpr ho,rfl⟩,by rw[h];rfl⟩
def cM(b:Nat):Nat→List Nat
 |0=>[0]
 |n+1=>if b.testBit n=true then cM b n++(cM b n).map (fun p=>p ||| 2^n) else cM b n
theorem qY(b:Nat):∀(n x:Nat),x∈cM b n↔∀v,x.testBit v=true→b.testBit v=true∧v<n
 |0,x=>by
  unfold cM
  constructor
  ·intro h v hv
   rw[List.mem_singleton.mp h,Nat.zero_testBit] at hv
   cases hv
  ·intro h
   refine List.mem_singleton.mpr (Nat.eq_of_testBit_eq fun v=>?_)
   rw[Nat.zero_testBit]
   cases e:x.testBit v with
   |false=>rfl
   |true=>exact absurd (h v e).2 (Nat.not_lt_zero v)
 |n+1,x=>by
  unfold cM
  by_cases c:b.testBit n=true
  ·rw[if_pos c,List.mem_append,List.mem_map,qY b n]
   constructor
   ·rintro(h|⟨p,hp,rfl⟩)
    ·exact fun v hv=>⟨(h v hv).1,by have:=(h v hv).2;omega⟩
    ·intro v hv
     rw[Nat.testBit_or,Nat.testBit_two_pow,Bool.or_eq_true,decide_eq_true_eq] at hv
     rcases hv with hv|rfl
     ·have:=(qY b n p).mp hp v hv
      exact⟨this.1,by omega⟩
     ·exact⟨c,by omega⟩
   ·intro h
    cases e:x.testBit n with
    |false=>
     refine .inl fun v hv=>⟨(h v hv).1,?_⟩
     have:=(h v hv).2
     have:v≠n:=fun z=>by subst z;rw[e] at hv;cases hv
     omega
    |true=>
     obtain⟨h1,h2⟩:=zY e
     refine .inr ⟨x - 2^n,(qY b n _).mpr fun v hv=>?_,h1.symm⟩
     have hvx:x.testBit v=true:=by rw[h1,Nat.testBit_or,hv];rfl
     have:=(h v hvx).2
     have:v≠n:=fun z=>by subst z;rw[h2] at hv;cases hv
     exact⟨(h v hvx).1,by omega⟩
  ·rw[if_neg c,qY b n]
   constructor
   ·exact fun h v hv=>⟨(h v hv).1,by have:=(h v hv).2;omega⟩
   ·intro h v hv
    have:=(h v hv).2
    have:v≠n:=fun z=>by subst z;exact c (h v hv).1
    exact⟨(h v hv).1,by omega⟩
theorem Aj(b:Nat):∀n x,x∈cM b n→x<2^n:=by
 intro n x h
 refine Nat.lt_pow_two_of_testBit x fun v hv=>?_
 cases e:x.testBit v with
 |false=>rfl
 |true=>have:=((qY b n x).mp h v e).2;omega
theorem Nq{p n:Nat}(h:p<2^n):p ||| 2^n=p+2^n:=by
 rw[MB.uO,if_neg]
 rw[Nat.testBit_lt_two_pow h]
 simp
theorem yL(b:Nat):∀n,(cM b n).Pairwise (· < ·)
 |0=>by simp[cM]
 |n+1=>by
  unfold cM
  have ih:=yL b n
  split
  ·rw[List.pairwise_append]
   refine⟨ih,?_,?_⟩
   ·rw[List.pairwise_map]
    refine ih.imp_of_mem fun {p q} hp hq h=>?_
    rw[Nq (Aj b n p hp),Nq (Aj b n q hq)]
    omega
   ·intro p hp q hq
    obtain⟨z,hz,rfl⟩:=List.mem_map.mp hq
    rw[Nq (Aj b n z hz)]
    have:=Aj b n p hp
    omega
  ·exact ih
def jz(b n:Nat):Nat:=((List.range n).filter fun v=>b.testBit v).length
theorem z7(b:Nat):∀n,(cM b n).length=2^jz b n
 |0=>rfl
 |n+1=>by
  have ih:=z7 b n
  unfold cM
  have e:jz b (n+1)=jz b n+if b.testBit n=true then 1 else 0:=by
   unfold jz
   rw[List.range_succ,List.filter_append,List.length_append]
   by_cases c:b.testBit n=true<;>simp[c]
  rw[e]
  split
  ·rw[List.length_append,List.length_map,ih,Nat.pow_succ]
   omega
  ·rw[ih]
   rfl
theorem qZ{b n:Nat}(h:b<2^n)(x:Nat):x∈cM b n↔∀v,x.testBit v=true→b.testBit v=true:=by
 rw[qY]
 constructor
 ·exact fun g v hv=>(g v hv).1
 ·intro g v hv
  refine⟨g v hv,?_⟩
  have h1:=g v hv
  cases Nat.lt_or_ge v n with
  |inl h=>exact h
  |inr h'=>
   rw[Nat.testBit_lt_two_pow (Nat.lt_of_lt_of_le h (Nat.pow_le_pow_right (by decide) h'))] at h1
   cases h1
theorem sub_len:∀{l m:List Nat},l.Nodup→(∀x∈l,x∈m)→l.length≤m.length
 | [],_,_,_=>Nat.zero_le _
 |a::r,m,nd,h=>by
  have ha:=h a (List.mem_cons_self ..)
  have h1:=sub_len (l:=r) (m:=m.erase a) (List.nodup_cons.mp nd).2 fun x hx=>(List.mem_erase_of_ne fun e=>(List.nodup_cons.mp nd).1 (by rw[←e];exact hx)).mpr (h x (List.mem_cons_of_mem _ hx))
  rw[List.length_erase_of_mem ha] at h1
  have:=List.length_pos_of_mem ha
  rw[List.length_cons]
  omega
theorem uG{b n:Nat}{l:List Nat}(h:∀v,b.testBit v=true→v∈l):jz b n≤l.length:=by
 have nd:((List.range n).filter fun v=>b.testBit v).Nodup:=List.nodup_range.sublist List.filter_sublist
 exact sub_len nd fun v hv=>h v (List.mem_filter.mp hv).2
def draw(s:Scheme)(x j:Nat):Bool:=match s.relays[j]? with
 |some r=>(liveNodes s x).testBit r.node
 |none=>false
def dX(s:Scheme)(x:Nat):Nat:=(((List.range s.relays.length).filter (draw s x)).map fun j=>2^(16+j)).sum
theorem Yp(p:Nat→Bool):∀n,(((List.range n).filter p).map fun j=>2^(16+j)).sum=MB.sumBits (fun v=>decide (16≤v)&&p (v - 16)) (16+n)
 |0=>by
  show 0=_
  rw[Nat.add_zero]
  have:∀k,k≤16→MB.sumBits (fun v=>decide (16≤v)&&p (v - 16)) k=0:=by
   intro k
   induction k with
   |zero=>intro _;rfl
   |succ k ih=>
    intro hk
    rw[MB.tL,if_neg,ih (by omega)]
    rw[decide_eq_false (by omega)]
    simp
  exact(this 16 (Nat.le_refl _)).symm
 |n+1=>by
  have ih:=Yp p n
  rw[List.range_succ,List.filter_append,List.map_append,List.sum_append_nat,ih,←Nat.add_assoc,MB.tL]
  have e:16+n - 16=n:=by omega
  rw[e,decide_eq_true (by omega:16≤16+n),Bool.true_and]
  by_cases c:p n=true<;>simp[c]
theorem yZ(s:Scheme)(x v:Nat):(dX s x).testBit v=(decide (16≤v)&&draw s x (v - 16)):=by
 unfold dX
 rw[Yp,MB.jF]
 by_cases c:v<16+s.relays.length
 ·rw[decide_eq_true c,Bool.true_and]
 ·rw[decide_eq_false c,Bool.false_and]
  symm
  rw[Bool.and_eq_false_iff]
  by_cases c1:16≤v
  ·right
   unfold draw
   rw[List.getElem?_eq_none (by omega)]
  ·left
   exact decide_eq_false c1
theorem afs(s:Scheme)(x j:Nat)(hj:j<s.relays.length):rung s x j=(x - (x&&& 2^(16+j))) ||| (dX s x&&& 2^(16+j)):=by
 obtain⟨r,hr⟩:∃r,s.relays[j]? =some r:=⟨s.relays[j],List.getElem?_eq_getElem hj⟩
 unfold rung
 rw[hr,←MB.agu]
 dsimp only
 refine Nat.eq_of_testBit_eq fun v=>?_
 rw[Nat.testBit_or,uF,uF,Nat.testBit_and,yZ,Nat.testBit_two_pow]
 by_cases c:v=16+j
 ·subst c
  rw[if_pos rfl,if_pos rfl,decide_eq_true (by omega:16≤16+j),show 16+j - 16=j by omega]
  unfold draw
  rw[hr]
  simp
 ·rw[if_neg c,if_neg c]
  have:decide (16+j=v)=false:=decide_eq_false fun z=>c z.symm
  rw[this]
  simp
def gP(s:Scheme):Nat:=(s.used.map fun v=>2^v).sum
theorem Lj(p:Nat→Bool):∀n,(((List.range n).filter p).map fun v=>2^v).sum=MB.sumBits p n
 |0=>rfl
 |n+1=>by
  have ih:=Lj p n
  rw[List.range_succ,List.filter_append,List.map_append,List.sum_append_nat,ih,MB.tL]
  by_cases c:p n=true<;>simp[c]
theorem za(s:Scheme)(v:Nat):(gP s).testBit v=true↔v∈s.used:=by
 unfold gP
 unfold Scheme.used
 rw[Lj,MB.jF,List.mem_filter,List.mem_range,Bool.and_eq_true,decide_eq_true_eq]
theorem Yq(s:Scheme):gP s<2^32:=by
 unfold gP Scheme.used
 rw[Lj]
 exact MB.qH _ _
theorem Jg(x v:Nat):(x&&& 2^v≠0)↔x.testBit v=true:=by
 rw[MB.Le]
 split
 ·rename_i h
  exact⟨fun _=>h,fun _=>Nat.ne_of_gt (Nat.two_pow_pos v)⟩
 ·rename_i h
  exact⟨fun g=>absurd rfl g,fun g=>absurd g h⟩
theorem aey(s:Scheme)(x i j:Nat):((dX s x^^^dX s (x^^^2^(16+i)))&&& 2^(16+j)≠0)↔draw s x j≠draw s (turned x (16+i)) j:=by
 rw[Jg,Nat.testBit_xor,yZ,yZ,decide_eq_true (by omega:16≤16+j),show 16+j - 16=j by omega,←afn,Bool.true_and,Bool.true_and]
 cases draw s x j<;>cases draw s (turned x (16+i)) j<;>simp
def rN(s:Scheme)(j i:Nat):Bool:=(cM (gP s) 32).any fun x=>decide ((dX s x^^^dX s (x^^^2^(16+i)))&&& 2^(16+j)≠0)
def mC(s:Scheme):List Nat:=s.used.filterMap fun v=>if 16≤v then some (v - 16) else none
theorem W_(P:Nat→Bool):∀l:List Nat,((l.filterMap fun v=>if 16≤v then some (v - 16) else none).filter fun i=>P (16+i))=(l.filter P).filterMap fun v=>if 16≤v then some (v - 16) else none
 | []=>rfl
 |v::r=>by
  have ih:=W_ P r
  rw[List.filterMap_cons,List.filter_cons]
  by_cases c:16≤v
  ·simp only[c,if_true]
   rw[List.filter_cons,show 16+(v - 16)=v by omega,ih]
   by_cases h:P v=true
   ·simp[h,c]
   ·simp[h]
  ·simp only[c,if_false]
   rw[ih]
   by_cases h:P v=true
   ·simp[h,c]
   ·simp[h]
theorem aiH(s:Scheme)(f:Nat→Bool):(cM (gP s) 32).any f=s.states.any f:=by
 rw[Bool.eq_iff_iff,List.any_eq_true,List.any_eq_true]
 have e:∀x,x∈cM (gP s) 32↔x∈s.states:=fun x=>by
  rw[qZ (Yq s),afq]
  exact⟨fun h v hv=>(za s v).mp (h v hv),fun h v hv=>(za s v).mpr (h v hv)⟩
 exact⟨fun⟨x,hx,h⟩=>⟨x,(e x).mp hx,h⟩,fun⟨x,hx,h⟩=>⟨x,(e x).mpr hx,h⟩⟩
theorem Lk{s:Scheme}{j:Nat}(hj:j<s.relays.length):(mC s).filter (rN s j)=hangsOn s j:=by
 obtain⟨r,hr⟩:∃r,s.relays[j]? =some r:=⟨s.relays[j],List.getElem?_eq_getElem hj⟩
 unfold hangsOn
 rw[hr]
 dsimp only
 unfold mattersTo mC
 rw[←W_]
 congr 1
 funext i
 unfold rN
 rw[aiH]
 congr 1
 funext x
 rw[Bool.eq_iff_iff,decide_eq_true_eq,aey]
 unfold draw
 rw[hr]
 simp
theorem agy(s:Scheme)(i:Nat):i∈mC s↔16+i∈s.used:=by
 unfold mC
 rw[List.mem_filterMap]
 constructor
 ·rintro⟨v,hv,e⟩
  split at e
  ·cases e
   rw[show 16+(v - 16)=v by omega]
   exact hv
  ·cases e
 ·intro h
  exact⟨16+i,h,by rw[if_pos (by omega)];congr 1;omega⟩
theorem JK(s:Scheme):(mC s).length≤s.used.length:=List.length_filterMap_le ..
theorem adR(s:Scheme):(cM (gP s) 32).length≤2^s.used.length:=by
 rw[z7]
 exact Nat.pow_le_pow_right (by decide) (uG fun v hv=>(za s v).mp hv)
def eG(n:Nat)(l:List Nat):List Nat:=(List.range n).filter fun j=> !l.contains j
theorem Ve{α:Type}(p q:α→Bool):∀l:List α,((l.filter p).filter q).head?=l.find? fun x=>p x&&q x
 | []=>rfl
 |x::r=>by
  have ih:=Ve p q r
  rw[List.filter_cons,List.find?_cons]
  cases hp:p x with
  |false=>simp only[Bool.false_eq_true,if_false,Bool.false_and];exact ih
  |true=>
   simp only[if_true,Bool.true_and]
   rw[List.filter_cons]
   cases hq:q x with
   |true=>simp
   |false=>simp only[Bool.false_eq_true,if_false];exact ih
theorem aft(h:List (List Nat))(k:Nat)(l:List Nat):orderFrom h (k+1) l=match((eG h.length l).filter fun j=>(h.getD j []).all fun i=>l.contains i).head? with
 |some j=>orderFrom h k (l++[j])
 |none=>none:=by
 unfold eG
 rw[Ve]
 rfl
theorem V0{n:Nat}{l:List Nat}{j:Nat}(hj:j∈eG n l):(eG n l).erase j=eG n (l++[j]):=by
 have nd:(eG n l).Nodup:=List.nodup_range.sublist List.filter_sublist
 rw[nd.erase_eq_filter]
 unfold eG
 rw[List.filter_filter]
 refine List.filter_congr fun i hi=>?_
 by_cases e:i=j
 ·subst e
  simp
 ·have:¬i=j:=e
  simp[e]
theorem Ku(n:Nat):eG n []=List.range n:=by
 unfold eG
 rw[List.filter_eq_self]
 intro a _
 rfl
def BJ(s:Scheme):Nat:=(2^s.relays.length - 1)*2^16
theorem Yr(s:Scheme)(v:Nat):(BJ s).testBit v=(decide (16≤v)&&decide (v - 16<s.relays.length)):=by
 unfold BJ
 rw[←Nat.shiftLeft_eq,Nat.testBit_shiftLeft,Nat.testBit_two_pow_sub_one]
def kZ(s:Scheme)(x:Nat):Nat:=(dX s x^^^x)&&& BJ s
theorem uz(s:Scheme)(x v:Nat):(kZ s x).testBit v=true↔16≤v∧v - 16∈unsettled s x:=by
 unfold kZ
 rw[Nat.testBit_and,Nat.testBit_xor,yZ,Yr,Tp]
 by_cases c:16≤v
 ·rw[decide_eq_true c,Bool.true_and,Bool.true_and,show 16+(v - 16)=v by omega]
  unfold draw
  by_cases h:v - 16<s.relays.length
  ·rw[decide_eq_true h,Bool.and_true]
   obtain⟨r,hr⟩:∃r,s.relays[v - 16]? =some r:=⟨s.relays[v - 16],List.getElem?_eq_getElem h⟩
   rw[hr]
   simp only[Option.some.injEq,exists_eq_left']
   cases(liveNodes s x).testBit r.node<;>cases x.testBit v<;>simp[c]
  ·rw[decide_eq_false h,Bool.and_false,List.getElem?_eq_none (by omega)]
   simp
 ·rw[decide_eq_false c]
  simp[c]
theorem Lp{s:Scheme}(hr:s.relays.length≤12)(x:Nat):kZ s x<2^28:=by
 refine Nat.lt_pow_two_of_testBit _ fun v hv=>?_
 cases e:(kZ s x).testBit v with
 |false=>rfl
 |true=>
  have:=tM ((uz s x v).mp e).2
  omega
def eZ(s:Scheme)(x:Nat):List Nat:=((cM (kZ s x) 28).filter fun t=>decide (t≠0)).map fun t=>x^^^t
theorem Ys{s:Scheme}(hr:s.relays.length≤12)(x y:Nat):y∈eZ s x↔y∈moves s x:=by
 unfold eZ
 rw[List.mem_map,um]
 constructor
 ·rintro⟨t,ht,rfl⟩
  obtain⟨h1,h2⟩:=List.mem_filter.mp ht
  rw[decide_eq_true_eq] at h2
  rw[qZ (Lp hr x)] at h1
  refine⟨fun e=>h2 ?_,fun v hv=>?_⟩
  ·have:=congrArg (fun z=>x^^^z) e
   rw[←Nat.xor_assoc,Nat.xor_self,Nat.zero_xor] at this
   exact this
  ·rw[Nat.testBit_xor] at hv
   cases e:t.testBit v with
   |false=>rw[e] at hv;simp at hv
   |true=>exact(uz s x v).mp (h1 v e)
 ·rintro⟨h1,h2⟩
  refine⟨x^^^y,List.mem_filter.mpr ⟨?_,?_⟩,?_⟩
  ·rw[qZ (Lp hr x)]
   intro v hv
   rw[Nat.testBit_xor] at hv
   refine(uz s x v).mpr (h2 v fun e=>?_)
   rw[e] at hv
   simp at hv
  ·rw[decide_eq_true_eq]
   intro e
   apply h1
   have:=congrArg (fun z=>x^^^z) e
   rw[←Nat.xor_assoc,Nat.xor_self,Nat.zero_xor,Nat.xor_zero] at this
   exact this
  ·rw[←Nat.xor_assoc,Nat.xor_self,Nat.zero_xor]
theorem ahz{s:Scheme}(x:Nat):(eZ s x).length≤2^s.relays.length:=by
 unfold eZ
 rw[List.length_map]
 refine Nat.le_trans (List.length_filter_le _ _) ?_
 rw[z7]
 refine Nat.pow_le_pow_right (by decide) ?_
 refine Nat.le_trans (uG (l:=(List.range s.relays.length).map (16+ ·)) fun v hv=>?_) (by rw[List.length_map,List.length_range];exact Nat.le_refl _)
 obtain⟨h1,h2⟩:=(uz s x v).mp hv
 exact List.mem_map.mpr ⟨v - 16,List.mem_range.mpr (tM h2),by omega⟩
theorem Xa{s:Scheme}{x:Nat}(h:∀y∈moves s x,¬Ring s y):¬Ring s x:=by
 rintro⟨z,n,hn,⟨k,hk⟩,hz⟩
 cases k with
 |succ k=>
  obtain⟨y,hy,hw⟩:=hk
  exact h y hy ⟨z,n,hn,⟨k,hw⟩,hz⟩
 |zero=>
  have e:x=z:=hk
  subst e
  cases n with
  |zero=>omega
  |succ n=>
   obtain⟨y,hy,hw⟩:=id hz
   exact h y hy ⟨x,n+1,hn,⟨n,hw⟩,hz⟩
def pC(s:Scheme)(x y:Nat):Prop:=rest s y=true∧Reach s x y
theorem afu{s:Scheme}{x:Nat}(h:rest s x=true)(y:Nat):pC s x y↔y=x:=by
 constructor
 ·rintro⟨_,k,hk⟩
  cases k with
  |zero=>exact hk.symm
  |succ k=>
   obtain⟨z,hz,_⟩:=hk
   rw[Jd.mp h] at hz
   cases hz
 ·rintro rfl
  exact⟨h,Reach.refl _ _⟩
theorem Vf{s:Scheme}{x:Nat}(h:rest s x=false)(y:Nat):pC s x y↔∃z∈moves s x,pC s z y:=by
 constructor
 ·rintro⟨hy,k,hk⟩
  cases k with
  |zero=>
   have e:x=y:=hk
   subst e
   rw[h] at hy
   cases hy
  |succ k=>
   obtain⟨z,hz,hw⟩:=hk
   exact⟨z,hz,hy,k,hw⟩
 ·rintro⟨z,hz,hy,hr⟩
  exact⟨hy,(Reach.one hz).trans hr⟩
theorem agz{s:Scheme}{W:Nat→Prop}(h:∀x,W x→∃y,y∈moves s x∧W y){x:Nat}(hx:W x):Ring s x:=by
 have go:∀k x,W x→∃y,Walk s k x y:=by
  intro k
  induction k with
  |zero=>exact fun x _=>⟨x,rfl⟩
  |succ k ih=>
   intro x hx
   obtain⟨z,hz,wz⟩:=h x hx
   obtain⟨y,hy⟩:=ih z wz
   exact⟨y,z,hz,hy⟩
 obtain⟨y,hy⟩:=go _ x hx
 exact yX hy (Nat.le_refl _)
def Known(s:Scheme)(x:Nat)(ks:List Nat):Prop:=¬Ring s x∧ks.Nodup∧∀y,y∈ks↔pC s x y
theorem agA{s:Scheme}{x:Nat}{ks:List Nat}(h:Known s x ks):whyNot s x=if 1<ks.length then 2 else 0:=by
 obtain⟨h1,h2,h3⟩:=h
 have hw:=agx h1
 split
 ·rename_i hl
  refine hw.2 fun one=>?_
  match ks,hl,h2,h3 with
  |a::b::r,_,nd,h3=>
   have ha:=(h3 a).mp (by simp)
   have hb:=(h3 b).mp (by simp)
   have:=one a b ha.1 ha.2 hb.1 hb.2
   subst this
   simp at nd
 ·rename_i hl
  refine hw.1 fun y z hy1 hy2 hz1 hz2=>?_
  have my:=(h3 y).mpr ⟨hy1,hy2⟩
  have mz:=(h3 z).mpr ⟨hz1,hz2⟩
  match ks,hl,my,mz with
  | [a],_,my,mz=>rw[List.mem_singleton.mp my,List.mem_singleton.mp mz]
  |_::_::_,hl,_,_=>simp at hl
theorem Jh(s:Scheme)(v:Nat):(MB.maskOf s).testBit v=(decide (v<32)&&s.hasVar v):=by
 unfold MB.maskOf
 exact MB.jF _ _ _
theorem V1{s:Scheme}(hi:s.inputs.length≤16)(hr:s.relays.length≤12):cM (MB.maskOf s) 32=allStates s:=by
 refine tW (yL _ _) (VR hi) fun x=>?_
 rw[qZ (MB.JG s),Zu hi]
 have e:∀v,(MB.maskOf s).testBit v=true↔s.hasVar v=true:=fun v=>by
  rw[Jh,Bool.and_eq_true,decide_eq_true_eq]
  refine⟨fun h=>h.2,fun h=>⟨?_,h⟩⟩
  unfold Scheme.hasVar at h
  simp at h
  omega
 exact⟨fun h v hv=>(e v).mp (h v hv),fun h v hv=>(e v).mpr (h v hv)⟩
theorem adS{s:Scheme}(hi:s.inputs.length≤16){x y:Nat}(hx:x∈allStates s)(hy:y∈moves s x):y∈allStates s:=by
 rw[Zu hi] at hx⊢
 intro v hv
 obtain⟨_,h2⟩:=(um s x y).mp hy
 by_cases c:y.testBit v=x.testBit v
 ·exact hx v (by rw[←c];exact hv)
 ·obtain⟨h3,h4⟩:=h2 v c
  unfold Scheme.hasVar
  simp
  right
  exact⟨h3,tM h4⟩
theorem adt(s:Scheme):(allStates s).length=2^(s.inputs.length+s.relays.length):=by
 unfold allStates
 rw[List.length_map,List.length_range]
theorem aez{s:Scheme}(h:∀x∈allStates s,whyNot s x=0):unsure s=none:=by
 unfold unsure
 rw[List.findSome?_eq_none_iff]
 intro x hx
 rw[if_pos (h x hx)]
theorem aeA{s:Scheme}{i x:Nat}(hi:(allStates s)[i]? =some x)(hx:whyNot s x≠0)(h:∀j y,j<i→(allStates s)[j]? =some y→whyNot s y=0):unsure s=some (x,whyNot s x):=by
 unfold unsure
 obtain⟨hlt,hl⟩:=List.getElem?_eq_some_iff.mp hi
 have e1:allStates s=(allStates s).take i++x::(allStates s).drop (i+1):=by
  rw[←hl,List.getElem_cons_drop,List.take_append_drop]
 rw[e1,List.findSome?_append]
 have:List.findSome? (fun x=>if whyNot s x=0 then none else some (x,whyNot s x)) ((allStates s).take i)=none:=by
  rw[List.findSome?_eq_none_iff]
  intro y hy
  obtain⟨j,hj⟩:=List.mem_iff_getElem?.mp hy
  have hji:j<i:=by
   have:=(List.getElem?_eq_some_iff.mp hj).1
   rw[List.length_take] at this
   omega
  rw[List.getElem?_take_of_lt hji] at hj
  rw[if_pos (h j y hji hj)]
 rw[this,List.findSome?_cons,if_neg hx]
 rfl
def pL(n:Nat)(o:List Nat):List (List Nat):=(List.range (n+1)).map fun p=>o.take p++[n]++o.drop p
def dM:Nat→List (List Nat)
 |0=>[[]]
 |n+1=>(dM n).flatMap (pL n)
theorem zc:∀(n:Nat) (o:List Nat),o∈dM n→o.Perm (List.range n)
 |0,o,h=>by
  rw[List.mem_singleton.mp h]
  exact .refl _
 |n+1,o,h=>by
  obtain⟨q,hq,ho⟩:=List.mem_flatMap.mp h
  obtain⟨p,_,rfl⟩:=List.mem_map.mp ho
  have ih:=zc n q hq
  rw[List.range_succ]
  have e:(q.take p++[n]++q.drop p).Perm (q++[n]):=by
   rw[List.append_assoc]
   refine(List.Perm.append_left _ List.perm_append_comm).trans ?_
   rw[←List.append_assoc,List.take_append_drop]
  exact e.trans (ih.append_right _)
theorem Xb:∀(n:Nat) (o:List Nat),o.Perm (List.range n)→o∈dM n
 |0,o,h=>by
  have:o=[]:=by simpa using h
  rw[this]
  exact List.mem_singleton.mpr rfl
 |n+1,o,h=>by
  have hn:n∈o:=h.mem_iff.mpr (by simp)
  obtain⟨a,b,rfl⟩:=List.append_of_mem hn
  have hp:(a++b).Perm (List.range n):=by
   rw[List.range_succ] at h
   have h1:(n::(a++b)).Perm (n::List.range n):=(List.perm_middle.symm.trans h).trans List.perm_append_comm
   exact h1.cons_inv
  refine List.mem_flatMap.mpr ⟨a++b,Xb n _ hp,List.mem_map.mpr ⟨a.length,List.mem_range.mpr ?_,?_⟩⟩
  ·have:=hp.length_eq
   rw[List.length_append,List.length_range] at this
   omega
  ·rw[List.take_left,List.drop_left,List.append_assoc]
   rfl
theorem Kv:∀n,n≤5→(dM n).length≤120:=by
 intro n hn
 have:∀n,n<6→(dM n).length≤120:=by decide+kernel
 exact this n (by omega)
theorem aiI{s:Scheme}(hv:∀c∈s.contacts,c.var<32){l:List Nat}(h1:l.Pairwise (· < ·))(h2:∀v,v∈l↔∃c∈s.contacts,c.var=v):l=s.used:=by
 refine tW h1 (Ie s) fun v=>?_
 rw[h2,Yo]
 refine⟨fun⟨c,hc,e⟩=>⟨by rw[←e];exact hv c hc,c,hc,e⟩,fun h=>h.2⟩
end MP
namespace R
open PySem
def fj(xs:Array Nat):Prop:=∀i j,i<j→j<xs.size→xs.getD i 0<xs.getD j 0
theorem gd{xs:Array Nat}{i a b:Nat}(h:i<xs.size):xs.getD i a=xs.getD i b:=by
 simp[Array.getD,h]
theorem Kw{xs:Array Nat}(hr:fj xs)(j:Nat):∀(f lo hi:Nat),hi - lo≤f→lo≤hi→hi≤xs.size→(∀k,k<lo→xs.getD k 0<j)→(∀k,hi≤k→k<xs.size→j≤xs.getD k 0)→
 SetTable.below.go xs j f lo hi≤xs.size∧(∀k,k<SetTable.below.go xs j f lo hi→xs.getD k 0<j)∧∀k,SetTable.below.go xs j f lo hi≤k→k<xs.size→j≤xs.getD k 0
 |0,lo,hi,h1,h2,h3,h4,h5=>by
  have e:lo=hi:=by omega
  subst e
  exact⟨h3,h4,h5⟩
 |f+1,lo,hi,h1,h2,h3,h4,h5=>by
  unfold SetTable.below.go
  by_cases c:lo<hi
  ·rw[if_pos c]
   dsimp only
   have hm:(lo+hi) / 2<xs.size:=by omega
   have hm1:lo≤(lo+hi) / 2:=by omega
   have hm2:(lo+hi) / 2<hi:=by omega
   rw[gd (a:=j) (b:=0) hm]
   by_cases c2:xs.getD ((lo+hi) / 2) 0<j
   ·simp only[c2,if_true]
    refine Kw hr j f _ hi (by omega) (by omega) h3 (fun k hk=>?_) h5
    rcases Nat.lt_or_ge k ((lo+hi) / 2) with z|z
    ·exact Nat.lt_trans (hr k _ z hm) c2
    ·have e:k=(lo+hi) / 2:=by omega
     rw[e]
     exact c2
   ·simp only[c2,if_false]
    refine Kw hr j f lo _ (by omega) hm1 (by omega) h4 fun k hk hks=>?_
    rcases Nat.lt_or_ge ((lo+hi) / 2) k with z|z
    ·have:=hr _ k z hks
     omega
    ·have e:k=(lo+hi) / 2:=by omega
     rw[e]
     omega
  ·rw[if_neg c]
   have e:lo=hi:=by omega
   subst e
   exact⟨h3,h4,h5⟩
theorem below_at{xs:Array Nat}(hr:fj xs)(j:Nat):SetTable.below xs j≤xs.size∧(∀k,k<SetTable.below xs j→xs.getD k 0<j)∧∀k,SetTable.below xs j≤k→k<xs.size→j≤xs.getD k 0:=
 Kw hr j xs.size 0 xs.size (by omega) (Nat.zero_le _) (Nat.le_refl _) (fun k hk=>absurd hk (Nat.not_lt_zero k)) fun k h1 h2=>by omega
theorem JL{l:List Nat}(h:l.Pairwise (· < ·)):fj l.toArray:=by
 intro i j hij hj
 have hj':j<l.length:=by simpa using hj
 have e:∀k,k<l.length→l.toArray.getD k 0=l.getD k 0:=fun k hk=>by simp[Array.getD,hk]
 rw[e i (by omega),e j hj']
 have:=List.pairwise_iff_getElem.mp h i j (by omega) hj' hij
 simpa [List.getD,hj',Nat.lt_trans hij hj'] using this
theorem agB{xs:Array Nat}(h:fj xs):xs.toList.Pairwise (· < ·):=by
 rw[List.pairwise_iff_getElem]
 intro i j hi hj hij
 have:=h i j hij (by simpa using hj)
 have hi':i<xs.size:=by simpa using hi
 have hj':j<xs.size:=by simpa using hj
 simpa [Array.getD,hi',hj'] using this
theorem aeB{α:Type}(xs:Array α)(p:Nat)(x:α):(SetTable.insertAt xs p x).toList=xs.toList.take p++x::xs.toList.drop p:=by
 unfold SetTable.insertAt
 simp[List.take_of_length_le]
theorem aeC{xs:Array Nat}(h:fj xs){j:Nat}(hn:∀k,k<xs.size→xs.getD k 0≠j):fj (SetTable.insertAt xs (SetTable.below xs j) j):=by
 obtain⟨h1,h2,h3⟩:=below_at h j
 have hp:=agB h
 have e:SetTable.insertAt xs (SetTable.below xs j) j=(xs.toList.take (SetTable.below xs j)++j::xs.toList.drop (SetTable.below xs j)).toArray:=by
  rw[←aeB]
 rw[e]
 refine JL ?_
 have gt:∀(k:Nat) (h:k<xs.toList.length),xs.toList[k]=xs.getD k 0:=fun k hk=>by
  have hk':k<xs.size:=by simpa using hk
  simp[Array.getD,hk']
 rw[List.pairwise_append,List.pairwise_cons]
 refine⟨hp.sublist (List.take_sublist ..),⟨fun a ha=>?_,hp.sublist (List.drop_sublist ..)⟩,fun a ha b hb=>?_⟩
 ·obtain⟨k,hk,rfl⟩:=List.mem_iff_getElem.mp ha
  rw[List.length_drop] at hk
  have hk2:SetTable.below xs j+k<xs.size:=by
   have:xs.toList.length=xs.size:=by simp
   omega
  rw[List.getElem_drop,gt]
  have:=h3 _ (Nat.le_add_right _ k) hk2
  have:=hn _ hk2
  omega
 ·obtain⟨k,hk,rfl⟩:=List.mem_iff_getElem.mp ha
  rw[List.length_take] at hk
  rw[List.getElem_take,gt]
  have a1:=h2 k (by omega)
  rcases List.mem_cons.mp hb with rfl|hb
  ·exact a1
  ·obtain⟨m,hm,rfl⟩:=List.mem_iff_getElem.mp hb
   rw[List.length_drop] at hm
   have hm2:SetTable.below xs j+m<xs.size:=by
    have:xs.toList.length=xs.size:=by simp
    omega
   rw[List.getElem_drop,gt]
   have:=h3 _ (Nat.le_add_right _ m) hm2
   omega
theorem ahA{t:SetTable}(h:fj t.place){j:Nat}(hs:∀i,t.slot j≠ .live i):∀k,k<t.place.size→t.place.getD k 0≠j:=by
 intro k hk e
 obtain⟨h1,h2,h3⟩:=below_at h j
 have hb:SetTable.below t.place j=k:=by
  rcases Nat.lt_trichotomy (SetTable.below t.place j) k with z|z|z
  ·have a:=h3 _ (Nat.le_refl _) (Nat.lt_trans z hk)
   have b:=h _ k z hk
   omega
  ·exact z
  ·have:=h2 k z
   omega
 have:t.slot j= .live k:=by
  unfold SetTable.slot
  rw[hb]
  have:t.place[k]? =some j:=by
   rw[←e]
   simp[Array.getD,hk]
  simp[this]
 exact hs k this
theorem JM{t:SetTable}{g:Nat→Int}{h:Int}:∀(f:Nat) (p:SetTable.Probe) (j:Nat) (d:Option Nat),(∀e,p.dummy=some e→t.slot e= .dummy)→SetTable.probe.go t g h f p=some (.empty j d)→t.slot j= .empty∧∀e,d=some e→t.slot e= .dummy
 |0,p,j,d,_,e=>by cases e
 |f+1,p,j,d,hp,e=>by
  unfold SetTable.probe.go at e
  split at e
  ·rename_i hs
   cases e
   exact⟨hs,hp⟩
  ·rename_i hs
   refine JM f _ j d ?_ e
   intro q hq
   have:(t.advance {p with dummy:=some p.j}).dummy=some p.j:=by
    unfold SetTable.advance
    split<;>rfl
   rw[this] at hq
   cases hq
   exact hs
  ·split at e
   ·cases e
   ·refine JM f _ j d ?_ e
    intro q hq
    have:(t.advance p).dummy=p.dummy:=by
     unfold SetTable.advance
     split<;>rfl
    rw[this] at hq
    exact hp q hq
theorem ahB{t:SetTable}(hr:fj t.place){h:Int}{j:Nat}{b:Bool}(e:t.freeSlot h=some (j,b)):∀k,k<t.place.size→t.place.getD k 0≠j:=by
 unfold SetTable.freeSlot at e
 split at e
 ·rename_i i d hp
  cases e
  obtain⟨h1,h2⟩:=JM _ _ _ _ (fun q hq=>by cases hq) hp
  refine ahA hr fun q hq=>?_
  cases d with
  |none=>
   change t.slot i= .live q at hq
   rw[h1] at hq
   cases hq
  |some d=>
   change t.slot d= .live q at hq
   rw[h2 d rfl] at hq
   cases hq
 ·cases e
theorem yM(n:Nat):fj (Array.range n):=by
 have:Array.range n=(List.range n).toArray:=by simp
 rw[this]
 exact JL List.pairwise_lt_range
theorem ahC{t:SetTable}(hr:fj t.place)(es:Array (Int×Value))(h:Int)(x:Value):fj (layNew t es h x).2.1.place∧(layNew t es h x).2.1.led=t.led:=by
 unfold layNew
 split
 ·rename_i slot d hf
  have e1:(t.put slot).1.place=SetTable.insertAt t.place (SetTable.below t.place slot) slot:=rfl
  have e2:(t.put slot).1.led=t.led:=rfl
  show fj ((t.put slot).1.orStandIn _).place∧((t.put slot).1.orStandIn _).led=t.led
  generalize (t.put slot).1=u at e1 e2⊢
  unfold SetTable.orStandIn
  split
  ·exact⟨by rw[e1];exact aeC hr (ahB hr hf),e2⟩
  ·exact⟨yM _,e2⟩
 ·exact⟨yM _,rfl⟩
theorem Yt(g:Nat→Option Nat):∀l:List Nat,(l.filterMap fun j=>(g j).map (j,·)).map (·.1)=l.filter fun j=>(g j).isSome
 | []=>rfl
 |j::r=>by
  rw[List.filterMap_cons,List.filter_cons,←Yt g r]
  cases g j<;>simp
theorem afv{t:SetTable}(hr:fj t.place)(es:Array (Int×Value))(n:Nat):fj (relayAll t es n).2.1.place∧(relayAll t es n).2.1.led=t.led:=by
 unfold relayAll
 split
 ·rename_i t' order hl
  dsimp only
  split
  ·unfold SetTable.relaid SetTable.laid at hl
   cases ho:SetTable.layClean (SetTable.sizeAbove n - 1) (es.map (·.1)) with
   |none=>rw[ho] at hl;cases hl
   |some owner=>
    rw[ho] at hl
    cases hl
    refine⟨JL ?_,rfl⟩
    rw[Yt]
    exact List.pairwise_lt_range.sublist List.filter_sublist
  ·exact⟨yM _,rfl⟩
 ·exact⟨yM _,rfl⟩
theorem afw{xs:Array Nat}(hr:fj xs){i:Nat}(hi:i<xs.size):SetTable.below xs (xs.getD i 0+1)=i+1:=by
 obtain⟨h1,h2,h3⟩:=below_at hr (xs.getD i 0+1)
 rcases Nat.lt_trichotomy (SetTable.below xs (xs.getD i 0+1)) (i+1) with z|z|z
 ·have:=h3 i (by omega) hi
  omega
 ·exact z
 ·have a:=h2 (i+1) z
  have b:=hr i (i+1) (by omega) (by omega)
  omega
theorem afx{xs:Array Nat}(hr:fj xs):SetTable.below xs 0=0:=by
 obtain⟨h1,h2,h3⟩:=below_at hr 0
 rcases Nat.eq_zero_or_pos (SetTable.below xs 0) with z|z
 ·exact z
 ·have:=h2 0 z
  omega
end R
namespace R
open PySem PySem.Spec PyProof.Rows L2
abbrev dR(w:World):Bool:=w.params.followText "set-order"
structure dF(w:World)(h:Heap)(a:Addr)(es:Array (Int×Value))(ep:Nat)(t:SetTable):Prop where
 at_:∃o,h.get? a=some o∧o.ExactSet∧o.data= .set es ep t
 fits:t.fits es.size=true
 rise:fj t.place
 led:t.led= !dR w
theorem dF.keep{w:World}{h h':Heap}{a:Addr}{es:Array (Int×Value)}{ep:Nat}{t:SetTable}(S:dF w h a es ep t)(k:∀o,h.get? a=some o→h'.get? a=some o):dF w h' a es ep t:=
 let ⟨o,h1,h2⟩:=S.at_
 ⟨⟨o,k o h1,h2⟩,S.fits,S.rise,S.led⟩
theorem CG(prog:Program)(w:World)(n:Int)(tk:Tok):(PySem.intKind prog w).is n (.int n tk)=true:=by simp[PySem.intKind,Value.isInt]
section
variable{prog:Program}{w:World}{A:Around}{E:Value→Shared→Prop}{s:Shared}
theorem Yu{h:Heap}{a:Addr}{o:Obj}{es es':Array (Int×Value)}{ep:Nat}{t t':SetTable}(ho:h.get? a=some o)(hex:o.ExactSet)(hd:o.data= .set es ep t)(hf:t'.fits es'.size=true)(hr:fj t'.place)(hl:t'.led= !dR w):
 (h.update a (Obj.putSet es' t')).get? a=some {o with data:=.set es' (ep+1) t'}∧dF w (h.update a (Obj.putSet es' t')) a es' (ep+1) t':=by
 have hg:(h.update a (Obj.putSet es' t')).get? a=some {o with data:=.set es' (ep+1) t'}:=by
  have z:=Heap.get?_update_self (Obj.putSet es' t') ho (by rw[putSet_of es' t' hd];rfl)
  rwa [putSet_of es' t' hd] at z
 exact⟨hg,⟨_,hg,⟨hex.1,hex.2.1,hex.2.2⟩,rfl⟩,hf,hr,hl⟩
theorem Yv{g:Bool→Sem Unit}(hg:∀(b:Bool) (s₁:Shared) (P:Unit→Shared→Prop),P () s₁→wpAny (model prog w) A (g b) P E s₁){a:Addr}{o:Obj}{es:Array (Int×Value)}{ep:Nat}{t:SetTable}
 (ho:s.heap.get? a=some o)(hex:o.ExactSet)(hd:o.data= .set es ep t){es1:Array (Int×Value)}{t2:SetTable}(hb1:es1.size<scanBound)(hf2:t2.fits es1.size=true)(hr2:fj t2.place)(hl2:t2.led= !dR w){wd:Bool}{R:Option Bool→Shared→Prop}
 (h:∀h' es' ep' t',Heap.SameBut a s.heap h'→dF w h' a es' ep' t'→List.Perm es'.toList es1.toList→R (some true) {s with heap:=h'}):
 wpAny (model prog w) A (do
  storeSet a es1 t2
  if(!wd&&t2.tooFull)=true then do
     g (relayAll t2 es1 (SetTable.grown es1.size)).2.2
     storeSet a (relayAll t2 es1 (SetTable.grown es1.size)).1 (relayAll t2 es1 (SetTable.grown es1.size)).2.1
     pure (some true)
   else pure (some true)) R E s:=by
 refine wpAny_bind (wpAny_storeSet_of ho hd ?_ (fits_of_scanBound hb1))
 obtain⟨ho1,i1⟩:=Yu (w:=w) ho hex hd hf2 hr2 hl2
 have sb1:=Heap.SameBut.update s.heap a (Obj.putSet es1 t2)
 split
 ·have hp:=relayAll_perm t2 es1 (SetTable.grown es1.size)
  have hfr:=relayAll_fits t2 es1 (SetTable.grown es1.size)
  have hrr:=afv hr2 es1 (SetTable.grown es1.size)
  generalize relayAll t2 es1 (SetTable.grown es1.size)=Rl at hp hfr hrr⊢
  obtain⟨es2,t3,gave⟩:=Rl
  dsimp only at hp hfr hrr⊢
  have hsz:es2.size=es1.size:=by rw[←Array.length_toList,hp.length_eq,Array.length_toList]
  refine wpAny_bind (hg gave _ _ (wpAny_bind (wpAny_storeSet_of ho1 rfl ?_ (fits_of_scanBound (by rw[hsz];exact hb1)))))
  obtain⟨_,i2⟩:=Yu (w:=w) (es':=es2) (t':=t3) ho1 ⟨hex.1,hex.2.1,hex.2.2⟩ rfl hfr hrr.1 (hrr.2.trans hl2)
  exact wpAny_pure (h _ _ _ _ (sb1.trans (Heap.SameBut.update _ a _)) i2 hp)
 ·exact wpAny_pure (h _ _ _ _ sb1 i1 (List.Perm.refl _))
theorem ajT{a:Addr}{es:Array (Int×Value)}{ep:Nat}{t:SetTable}{n:Int}{tk:Tok}{Q:Bool→Shared→Prop}(S:dF w s.heap a es ep t)(hel:ElemsOf (PySem.intKind prog w) es.toList)(hroom:es.size+1<scanBound)
 (h:∀h' es' ep' t' b,Heap.SameBut a s.heap h'→dF w h' a es' ep' t'→
   ((∃e∈es.toList,(PySem.intKind prog w).is n e.2=true)∧es'=es∨(¬∃e∈es.toList,(PySem.intKind prog w).is n e.2=true)∧List.Perm es'.toList (es.toList++[((PySem.intKind prog w).hash n,Value.int n tk)]))→Q b {s with heap:=h',toks:=s.toks+1}):
 wpAny (model prog w) A (setAdd a (.int n tk)) Q E s:=by
 obtain⟨⟨o,ho,hex,hd⟩,hf,hr,hl⟩:=id S
 unfold setAdd
 refine wpAny_holding (wpAny_bind ((PySem.intKind prog w).pyHash (k:=n) (CG _ _ _ _) ?_))
 unfold setAddHashed setAddHashedIn
 refine wpAny_holding (wpAny_bind (wpAny_setState_of (s:={s with toks:=s.toks+1}) ho hd hf ?_))
 dsimp only
 rw[byScan_of (knd:=PySem.intKind prog w) rfl (by omega) hel]
 simp only[↓reduceIte]
 unfold setAddByScan
 refine wpAny_bind (wpAny_bind (wpAny_rule (wpAny_bind (wpAny_setScan_of (knd:=PySem.intKind prog w) (k:=n) (s:={s with toks:=s.toks+1}) (CG _ _ _ _) ho hd hf hel ?_))))
 cases hq:List.findIdx? (fun e=>(PySem.intKind prog w).is n e.2) es.toList with
 |some j=>
  dsimp only
  obtain⟨hj,hpj,_⟩:=List.findIdx?_eq_some_iff_getElem.mp hq
  exact wpAny_pure (wpAny_pure (h s.heap es ep t _ (Heap.SameBut.refl a s.heap) S (.inl ⟨⟨es.toList[j],List.getElem_mem hj,hpj⟩,rfl⟩)))
 |none=>
  dsimp only
  have hno:¬∃e∈es.toList,(PySem.intKind prog w).is n e.2=true:=fun⟨e,he,hp⟩=>by
   have z:=List.findIdx?_eq_none_iff.mp hq e he
   rw[hp] at z
   cases z
  have hperm:=layNew_perm t es ((PySem.intKind prog w).hash n) (.int n tk)
  have hfits:=layNew_fits t es ((PySem.intKind prog w).hash n) (.int n tk)
  have rO:=ahC hr es ((PySem.intKind prog w).hash n) (.int n tk)
  generalize layNew t es ((PySem.intKind prog w).hash n) (.int n tk)=L at hperm hfits rO⊢
  obtain⟨es1,t1,wd,gave⟩:=L
  dsimp only at hperm hfits rO⊢
  rw[Array.toList_push] at hperm
  have hsz:es1.size=es.size+1:=by rw[←Array.length_toList,hperm.length_eq,List.length_append,Array.length_toList];rfl
  have way:∀(b:Bool) (s₁:Shared) (P:Unit→Shared→Prop),P () s₁→wpAny (model prog w) A (match b with|true=>rule "set.scan.the-table-gave-way"|false=>pure ()) P E s₁:=fun b s₁ P hP=>by
   cases b
   ·exact wpAny_pure hP
   ·exact wpAny_rule hP
  have fin:∀h' es' ep' t',Heap.SameBut a s.heap h'→dF w h' a es' ep' t'→List.Perm es'.toList es1.toList→Q true {s with heap:=h',toks:=s.toks+1}:=fun h' es' ep' t' sb S' p=>h h' es' ep' t' true sb S' (.inr ⟨hno,p.trans hperm⟩)
  refine wpAny_bind (way gave _ _ ?_)
  have hb:es1.size<scanBound:=by omega
  split
  ·refine wpAny_bind ?_
   rw[hashByValue_scannable 8 rfl]
   refine wpAny_pure ?_
   exact Yv (s:={s with toks:=s.toks+1}) way ho hex hd hb hfits rO.1 (rO.2.trans hl) fun h' es' ep' t' sb S' p=>wpAny_pure (fin h' es' ep' t' sb S' p)
  ·refine wpAny_bind (wpAny_pure ?_)
   simp only[↓reduceIte]
   exact Yv (s:={s with toks:=s.toks+1}) way ho hex hd hb hfits rO.1 (rO.2.trans hl) fun h' es' ep' t' sb S' p=>wpAny_pure (fin h' es' ep' t' sb S' p)
end
structure Holds(prog:Program)(w:World)(es:Array (Int×Value))(ks ns:List Int):Prop where
 els:ElemsOf (PySem.intKind prog w) es.toList
 num:IntsAre (es.toList.map (·.2)) ks
 nd:ks.Nodup
 mem:∀k,k∈ks↔k∈ns
 le:ks.length≤ns.length
theorem Xc:∀{us vs:List Value} {ks:List Int},List.Perm us vs→IntsAre vs ks→∃ls,IntsAre us ls∧ls.Perm ks:=by
 intro us vs ks p
 induction p generalizing ks with
 |nil=>intro h;cases h;exact⟨[],.nil,.refl _⟩
 |cons x p ih=>
  intro h
  cases h with
  |cons n t hr=>
   obtain⟨ls,h1,h2⟩:=ih hr
   exact⟨n::ls,.cons n t h1,h2.cons n⟩
 |swap x y l=>
  intro h
  cases h with
  |cons n t hr=>
   cases hr with
   |cons m u hr=>exact⟨_,.cons m u (.cons n t hr),.swap _ _ _⟩
 |trans p q ih1 ih2=>
  intro h
  obtain⟨ls,h1,h2⟩:=ih2 h
  obtain⟨ms,h3,h4⟩:=ih1 h1
  exact⟨ms,h3,h4.trans h2⟩
theorem ints_app:∀{us:List Value} {ks:List Int} {n:Int} {t:Tok},IntsAre us ks→IntsAre (us++[.int n t]) (ks++[n])
 |_,_,n,t,.nil=>.cons n t .nil
 |_,_,_,_,.cons m u h=>.cons m u (ints_app h)
theorem Yw{prog:Program}{w:World}:∀{us:List Value} {ks:List Int},IntsAre us ks→∀n,(∃u∈us,(PySem.intKind prog w).is n u=true)↔n∈ks
 |_,_,.nil,n=>by simp
 |_,_,.cons m t h,n=>by
  have ih:=Yw (prog:=prog) (w:=w) h n
  have e:(PySem.intKind prog w).is n (.int m t)=true↔n=m:=by
   constructor
   ·intro z
    obtain⟨u,hu⟩:=Value.isInt_shape (show Value.isInt n (.int m t)=true from z)
    cases hu
    rfl
   ·rintro rfl
    exact CG _ _ _ _
  rw[List.mem_cons,←ih,←e]
  simp
theorem Holds.add{prog:Program}{w:World}{es es':Array (Int×Value)}{ks ns:List Int}{n:Int}{tk:Tok}(H:Holds prog w es ks ns)
 (h:(∃e∈es.toList,(PySem.intKind prog w).is n e.2=true)∧es'=es∨(¬∃e∈es.toList,(PySem.intKind prog w).is n e.2=true)∧List.Perm es'.toList (es.toList++[((PySem.intKind prog w).hash n,Value.int n tk)])):∃ks',Holds prog w es' ks' (ns++[n]):=by
 have key:(∃e∈es.toList,(PySem.intKind prog w).is n e.2=true)↔n∈ks:=by
  rw[←Yw (prog:=prog) (w:=w) H.num n]
  constructor
  ·rintro⟨e,he,hi⟩
   exact⟨e.2,List.mem_map_of_mem he,hi⟩
  ·rintro⟨u,hu,hi⟩
   obtain⟨e,he,rfl⟩:=List.mem_map.mp hu
   exact⟨e,he,hi⟩
 rcases h with⟨h1,rfl⟩|⟨h1,hp⟩
 ·have hn:=key.mp h1
  refine⟨ks,H.els,H.num,H.nd,fun k=>?_,by rw[List.length_append];have:=H.le;omega⟩
  rw[List.mem_append,List.mem_singleton,H.mem]
  exact⟨.inl,fun z=>z.elim id fun e=>by rw[e];exact(H.mem n).mp hn⟩
 ·have hn:n∉ks:=fun z=>h1 (key.mpr z)
  have hm:List.Perm (es'.toList.map (·.2)) (es.toList.map (·.2)++[Value.int n tk]):=by
   have:=hp.map (·.2)
   rwa [List.map_append] at this
  obtain⟨ls,h2,h3⟩:=Xc hm (ints_app H.num)
  refine⟨ls,(ElemsOf.push H.els (CG _ _ _ _) rfl).perm hp,h2,?_,fun k=>?_,?_⟩
  ·rw[h3.nodup_iff,List.nodup_append]
   refine⟨H.nd,by simp,fun a ha b hb=>?_⟩
   rw[List.mem_singleton] at hb
   subst hb
   exact fun e=>hn (by rw[←e];exact ha)
  ·rw[h3.mem_iff,List.mem_append,List.mem_append,H.mem]
  ·rw[h3.length_eq,List.length_append,List.length_append]
   have:=H.le
   simp only[List.length_cons,List.length_nil]
   omega
section
variable{prog:Program}{w:World}{A:Around}{E:Value→Shared→Prop}{s:Shared}
theorem aiJ(a:Value){Q₁:Value→Shared→Prop}(h:Q₁ (.ref s.heap.objs.size) {s with heap:=s.heap.push {cls:=.type "set",dict:=none,data:=.set #[] 0 (.fresh 0 0 (!dR w))}}):
 codeAny (model prog w) A (.call (.builtin "set.__new__") ⟨[.type "set",a],[]⟩) (wants Q₁ E) s:=by
 refine codeAny_of_tree (show wpAny _ A.in1 (do checkBuiltinCall "set.__new__" ⟨[.type "set",a],[]⟩;again (.builtin "set.__new__" ⟨[.type "set",a],[]⟩)) _ _ s from ?_)
 refine wpAny_bind (wpAny_of_eq (PySem.F.newCall_set_1 a) (wpAny_pure ⟨plainId_quiet PySem.F.plain_set_new _,codeAny_builtin PySem.F.entry_set_new ?_⟩))
 rw[Around.under_plainId PySem.F.plain_set_new _]
 unfold Builtin.«set.__new__» Builtin.Frozenset.newClass
 have self:=sub_set_self
 obtain⟨hp,g,d,tk,os⟩:=s
 dsimp only
 wp_walk
 refine wpAny_askSetting (wpAny_pure ?_)
 simp only[newObj]
 exact wpAny_bind (wpAny_alloc (wpAny_pure (wpAny_pure h)))
end
section
variable{prog:Program}{w:World}{A:Around}{R:Result→Shared→Prop}{I:Addr}{fp wr:List Addr}{G:Array GenState→Array GenState→Prop}{n:Nat}{P:Nat→Value→Prop}{St:Nat→Shared→Prop}
theorem ahD(W:WalksS prog w A.in1 I fp wr G n P St)(S:Addr)(hSf:S∉fp)(val:Nat→Int)(hval:∀i v,P i v→∃t,v= .int (val i) t)(hb:n+1<scanBound):
 ∀(k i:Nat) (s:Shared) (es:Array (Int×Value)) (ep:Nat) (t:SetTable) (ks:List Int),n - i=k→i≤n→St i s→dF w s.heap S es ep t→Holds prog w es ks ((List.range i).map val)→
  (∀s' es' ep' t' ks',Moved (S::wr) G s s'→dF w s'.heap S es' ep' t'→Holds prog w es' ks' ((List.range n).map val)→R (.ok (.ret .none)) s')→
  codeAny (model prog w) A (.builtin "set.update.loop" ⟨[.ref S,.ref I],[]⟩) R s:=by
 have hSw:S∉wr:=fun h=>hSf (W.sub _ h)
 have more:∀b∈wr,b∈S::wr:=fun b z=>List.mem_cons_of_mem _ z
 intro k
 induction k with
 |zero=>
  intro i s es ep t ks hk hi hst hS hH hR
  obtain rfl:i=n:=by omega
  refine codeAny_builtin PyProof.Rows.F.entry_set_update_loop ?_
  rw[Around.under_plainId PyProof.Rows.F.plain_set_update_loop _]
  refine(show wpAny _ A.in1 (pyNext (.ref I) >>= _) _ _ s from wpAny_bind (W.done s _ _ hst fun s' hm=>?_))
  exact(show wpAny _ A.in1 (ret Value.none) _ _ s' from wpAny_pure (hR s' es ep t ks (hm.mono more) (hS.keep fun o e=>hm.heap S _ hSw e) hH))
 |succ k ih=>
  intro i s es ep t ks hk hi hst hS hH hR
  have hlt:i<n:=by omega
  refine codeAny_builtin PyProof.Rows.F.entry_set_update_loop ?_
  rw[Around.under_plainId PyProof.Rows.F.plain_set_update_loop _]
  refine(show wpAny _ A.in1 (pyNext (.ref I) >>= _) _ _ s from wpAny_bind (W.item i s _ _ hlt hst fun v s' hP hst' hm=>?_))
  obtain⟨tk,rfl⟩:=hval i v hP
  have hS':=hS.keep (h':=s'.heap) fun o e=>hm.heap S _ hSw e
  have hsz:es.size≤i:=by
   have h1:=hH.num.length
   have h2:=hH.le
   rw[List.length_map,List.length_range] at h2
   rw[List.length_map,Array.length_toList] at h1
   omega
  refine(show wpAny _ A.in1 (holding [Value.int (val i) tk] (setAdd S (.int (val i) tk)) >>= _) _ _ s' from wpAny_bind (wpAny_holding (ajT hS' hH.els (by omega) fun h' es' ep' t' b sb S' hadd=>?_)))
  obtain⟨ks',hH'⟩:=hH.add hadd
  have e:(List.range i).map val++[val i]=(List.range (i+1)).map val:=by rw[List.range_succ,List.map_append];rfl
  rw[e] at hH'
  refine wpAny_pure ⟨plainId_quiet PyProof.Rows.F.plain_set_update_loop _,ih (i+1) _ es' ep' t' ks' (by omega) hlt (W.frame _ s' _ _ hst' (Nat.le_succ _) fun b hb o q=>?_) S' hH' fun s'' a1 a2 a3 a4 hm''=>?_⟩
  ·rw[sb.2 b (fun z:b=S=>hSf (by rw[←z];exact hb))]
   exact q
  ·refine hR s'' a1 a2 a3 a4 (Moved.trans W.gtrans ((hm.mono more).then_heap (Nat.le_succ _) fun b o hb q=>?_) hm'')
   rw[sb.2 b (fun z:b=S=>hb (by rw[z];exact List.mem_cons_self))]
   exact q
end
theorem aiK(ns:List Int):(List.range ns.length).map (fun i=>ns.getD i 0)=ns:=by
 refine List.ext_getElem (by simp) fun i h1 h2=>?_
 simp[List.getD,h2]
section
variable{prog:Program}{w:World}{A:Around}{E:Value→Shared→Prop}{s:Shared}
theorem aeD{l:Addr}{items:Array Value}{ns:List Int}{Q:Value→Shared→Prop}(hh:A.handled=none)(hl:s.heap.IsList l items)(hi:IntsAre items.toList ns)(hb:items.size+1<scanBound)
 (h:∀(h':Heap) (tk:Nat) es ep t ks,dF w h' s.heap.objs.size es ep t→Holds prog w es ks ns→(∀b o,b<s.heap.objs.size→s.heap.get? b=some o→h'.get? b=some o)→Q (.ref s.heap.objs.size) {s with heap:=h',toks:=tk}):
 wpAny (model prog w) A (call (.type "set") [.ref l]) Q E s:=by
 obtain⟨c,tl,hmro⟩:=PySem.F.called_set.mro
 have hmade:=PySem.F.called_set.made
 have hsub:=PySem.F.called_set.sub
 refine wpAny_call (codeAny_of_tree (show wpAny _ _ (callAny (.type "set") _) _ _ _ from wpAny_pure ⟨Code.quiet_builtin _ (by decide+kernel),codeAny_builtin PySem.F.entry_type_call ?_⟩))
 rw[Around.under_plain (weight_type_call_type "set" [.ref l] []) rfl]
 have k1:=PySem.F.called_set.notType
 have k2:=PySem.F.called_set.canCreate
 have k3:=PySem.F.typeCall_set_1 (.ref l)
 repeat(any_goals (first|assumption|wp_step))
 refine codeAny_mono (aiJ (.ref l) (E:=E) (Q₁:=fun obj s₁=>obj= .ref s.heap.objs.size∧s₁= {s with heap:=s.heap.push {cls:=.type "set",dict:=none,data:=.set #[] 0 (.fresh 0 0 (!dR w))}}) ⟨rfl,rfl⟩) fun r s₁ hr=>?_
 match r,hr with
 | .ok (.ret obj),hr=>
   obtain⟨rfl,rfl⟩:=hr
   have hS:(s.heap.push {cls:=.type "set",dict:=none,data:=.set #[] 0 (.fresh 0 0 (!dR w))}).get? s.heap.objs.size=some {cls:=.type "set",dict:=none,data:=.set #[] 0 (.fresh 0 0 (!dR w))}:=Heap.get?_push_size _ rfl
   have hT:Shared.TypeIs {s with heap:=s.heap.push {cls:=.type "set",dict:=none,data:=.set #[] 0 (.fresh 0 0 (!dR w))}} (.ref s.heap.objs.size) "set":=⟨_,hS,rfl⟩
   have k4:=PySem.F.called_set.init.lookup
   have k5:=PySem.F.called_set.init.bind (.ref s.heap.objs.size)
   repeat(any_goals (first|assumption|wp_step))
   refine codeAny_mono (codeAny_call_builtin (R:=wants (fun r s₂=>r= .none∧∃h' tk es ep t ks,s₂= {s with heap:=h',toks:=tk}∧dF w h' s.heap.objs.size es ep t∧Holds prog w es ks ns∧
    (∀b o,b<s.heap.objs.size→s.heap.get? b=some o→h'.get? b=some o)) E) PySem.F.called_set.init.plain PySem.F.entry_set_init (check_set_init_1 hT ?_)) fun r₂ s₂ hr₂=>?_
   ·obtain⟨ol,hol,hcl,nl,hdl⟩:=hl
    obtain⟨ocls,odict,odata,oslots⟩:=ol
    simp only at hcl hdl
    subst hcl
    subst hdl
    have hol':=Heap.get?_push_of_some {cls:=.type "set",dict:=none,data:=.set #[] 0 (.fresh 0 0 (!dR w))} hol
    have hsls:=PySem.F.sub_list_set
    have hslf:=PySem.F.sub_list_frozenset
    have hne:(Value.type "list"==Value.type "dict")=false:=by decide
    have hl1:(s.heap.push {cls:=.type "set",dict:=none,data:=.set #[] 0 (.fresh 0 0 (!dR w))}).IsList l items:=⟨_,hol',rfl,nl,rfl⟩
    unfold Builtin.«set.__init__» noKeywords Builtin.Frozenset.updateFrom
    generalize hPI:pyIter=PI
    wp_walk
    subst hPI
    refine wpAny_pyIter_list (s:={s with heap:=s.heap.push {cls:=.type "set",dict:=none,data:=.set #[] 0 (.fresh 0 0 (!dR w))}}) hl1 ?_
    refine wpAny_bind (wpAny_runValue (M:=model prog w) ?_)
    have hlS:l<s.heap.objs.size:=Heap.lt_size hol
    have e1:(s.heap.push {cls:=.type "set",dict:=none,data:=.set #[] 0 (.fresh 0 0 (!dR w))}).objs.size=s.heap.objs.size+1:=Heap.size_push ..
    have hneI:l≠(s.heap.push {cls:=.type "set",dict:=none,data:=.set #[] 0 (.fresh 0 0 (!dR w))}).objs.size:=by rw[e1];exact Nat.ne_of_lt (Nat.lt_succ_of_lt hlS)
    have hSf:s.heap.objs.size∉[(s.heap.push {cls:=.type "set",dict:=none,data:=.set #[] 0 (.fresh 0 0 (!dR w))}).objs.size,l]:=by
     rw[e1]
     simp only[List.mem_cons,List.not_mem_nil,or_false,not_or]
     exact⟨Nat.ne_of_lt (Nat.lt_succ_self _),Nat.ne_of_gt hlS⟩
    have hlen:items.size=ns.length:=by rw[←hi.length,Array.length_toList]
    have hval:∀(i:Nat) (v:Value),items[i]? =some v→∃t,v= .int ((fun i=>ns.getD i 0) i) t:=fun i v hv=>hi.int_at i v (by rw[Array.getElem?_toList];exact hv)
    refine ahD ((Walks.list (by simp[hh]) _ l hneI items).toS) s.heap.objs.size hSf (fun i=>ns.getD i 0) hval hb (items.size - 0) 0 _ #[] 0 (.fresh 0 0 (!dR w)) [] rfl (Nat.zero_le _)
     ⟨⟨_,Heap.get?_push_size _ rfl,rfl,rfl⟩,hl1.push _⟩ ?_ ?_ ?_
    ·exact⟨⟨_,Heap.get?_push_of_some _ hS,⟨rfl,rfl,rfl⟩,rfl⟩,rfl,fun i j _ hj=>absurd hj (Nat.not_lt_zero j),rfl⟩
    ·exact⟨fun e he=>by simp at he,.nil,.nil,fun k=>by simp,by simp⟩
    ·intro s' es' ep' t' ks' hm hS' hH'
     obtain⟨h',g',d',tk',os'⟩:=s'
     obtain rfl:g'=s.gens:=hm.gens
     obtain rfl:d'=s.drawn:=hm.drawn
     obtain rfl:os'=s.os:=hm.os
     refine(show wpAny _ _ _ _ _ _ from wpAny_pure (show wpAny _ _ (ret Value.none) _ _ _ from wpAny_pure ⟨rfl,h',tk',es',ep',t',ks',rfl,hS',?_,fun b o hb q=>?_⟩))
     ·rw[hlen,aiK] at hH'
      exact hH'
     ·refine hm.heap b o ?_ (Heap.get?_push_of_some _ (Heap.get?_push_of_some _ q))
      rw[e1]
      simp only[List.mem_cons,List.not_mem_nil,or_false,not_or]
      exact⟨Nat.ne_of_lt hb,Nat.ne_of_lt (Nat.lt_succ_of_lt hb)⟩
   ·match r₂,hr₂ with
    | .ok (.ret r),hr₂=>
      obtain⟨rfl,h',tk,es,ep,t,ks,rfl,a1,a2,a3⟩:=hr₂
      repeat(any_goals (first|assumption|wp_step))
      exact h _ _ _ _ _ _ a1 a2 a3
    | .error e,hr₂=>exact hr₂
    | .ok .next,hr₂=>exact hr₂.elim
    | .ok .brk,hr₂=>exact hr₂.elim
    | .ok .cont,hr₂=>exact hr₂.elim
 | .error e,hr=>exact hr
 | .ok .next,hr=>exact hr.elim
 | .ok .brk,hr=>exact hr.elim
 | .ok .cont,hr=>exact hr.elim
end
theorem jE:Slot "set_iterator" "__next__" "set_iterator.__next__":=
 .of (owner:="set_iterator") (n:="__next__") (by rw[typeLookup_type,builtinLookup_eq_fast];kernel_rfl) (by decide+kernel) (by decide+kernel) (by decide+kernel) (by first|exact .inl (by decide+kernel)|exact .inr (by decide+kernel)) (by rw[isSubtype_type];kernel_rfl)
theorem xU:entryFor table "set_iterator.__next__"=some Builtin.«set_iterator.__next__»:=entryFor_of_tree (by kernel_rfl)
theorem Yx:Manifest.owners.lookup (String.ofList ['r','o','t','a','r','e','t','i','_','t','e','s'].reverse)=some Manifest.sig_set_iterator:=by kernel_rfl
theorem z8(a:Value):argsOk "set_iterator.__next__" ⟨[a],[]⟩:=by
 unfold argsOk;rw[signature?_of (id:="set_iterator.__next__") (n:=['_','_','t','x','e','n','_','_']) (o:=['r','o','t','a','r','e','t','i','_','t','e','s']) (by kernel_rfl) Yx];kernel_rfl
theorem adu:entryFor table "set.__iter__"=some Builtin.«frozenset.__iter__»:=entryFor_alias (id':="frozenset.__iter__") (by kernel_rfl) rfl (by decide+kernel) (by kernel_rfl)
theorem Ue:Slot "set_iterator" "__iter__" "set_iterator.__iter__":=
 .of (owner:="set_iterator") (n:="__iter__") (by rw[typeLookup_type,builtinLookup_eq_fast];kernel_rfl) (by decide+kernel) (by decide+kernel) (by decide+kernel) (by first|exact .inl (by decide+kernel)|exact .inr (by decide+kernel)) (by rw[isSubtype_type];kernel_rfl)
theorem adv:entryFor table "set_iterator.__iter__"=some Builtin.«dict_keyiterator.__iter__»:=entryFor_alias (id':="dict_keyiterator.__iter__") (by kernel_rfl) rfl (by decide+kernel) (by kernel_rfl)
theorem adT(a:Value):argsOk "set_iterator.__iter__" ⟨[a],[]⟩:=by
 unfold argsOk;rw[signature?_of (id:="set_iterator.__iter__") (n:=['_','_','r','e','t','i','_','_']) (o:=['r','o','t','a','r','e','t','i','_','t','e','s']) (by kernel_rfl) Yx];kernel_rfl
theorem Ji{α:Type}:∀{l:List α} {i:Nat} (h:i<l.length),List.Perm (l[i]::l.eraseIdx i) l
 |a::r,0,_=>.refl _
 |a::r,i+1,h=>by
  have hi:i<r.length:=by simpa using h
  have ih:=Ji (l:=r) (i:=i) hi
  show List.Perm (r[i]::a::r.eraseIdx i) (a::r)
  exact(List.Perm.swap _ _ _).trans (ih.cons a)
theorem Zv{α:Type}(next:Nat→Nat):∀(f k:Nat) (left:List α) (out:Array α),left.length=f→List.Perm (pickOrder.go next f k left out).toList (out.toList++left)
 |0,k,left,out,h=>by
  have:left=[]:=List.length_eq_zero_iff.mp h
  subst this
  unfold pickOrder.go
  simp
 |f+1,k,left,out,h=>by
  unfold pickOrder.go
  have hlt:next k % left.length<left.length:=Nat.mod_lt _ (by omega)
  rw[List.getElem?_eq_getElem hlt]
  dsimp only
  refine(Zv next f (k+1) _ _ (by rw[List.length_eraseIdx_of_lt hlt];omega)).trans ?_
  rw[Array.toList_push,List.append_assoc]
  refine List.Perm.append_left _ ?_
  exact(Ji hlt)
theorem agC{α:Type}(next:Nat→Nat)(xs:Array α):List.Perm (pickOrder next xs).toList xs.toList:=by
 have:=Zv next xs.size 0 xs.toList #[] (by simp)
 simpa [pickOrder] using this
section
variable{prog:Program}{w:World}{A:Around}{E:Value→Shared→Prop}{s:Shared}
theorem aiL{src:Source}{n:Nat}{Q:Nat→Shared→Prop}(hn:n≠0)(h:∀i d,i<n→Q i {s with drawn:=d}):wpAny (model prog w) A (choose src n) Q E s:=by
 intro Γ p hΓ
 show Sem.wp _ Γ (.choose src n _) _ _ p s
 rw[Sem.wp_choose]
 exact⟨hn,by
  show Sem.wp _ Γ (.pure _) _ _ p _
  rw[Sem.wp_pure]
  exact h _ _ (Nat.mod_lt _ (Nat.pos_of_ne_zero hn))⟩
theorem afy{α:Type}:∀(n:Nat) (xs:List α) {s:Shared} {Q:List α→Shared→Prop},xs.length=n→(∀ys d,List.Perm ys xs→Q ys {s with drawn:=d})→wpAny (model prog w) A (drawOrder n xs) Q E s:=by
 intro n
 induction n with
 |zero=>
  intro xs s Q h hQ
  have:xs=[]:=List.length_eq_zero_iff.mp h
  subst this
  unfold drawOrder
  exact wpAny_pure (hQ [] s.drawn (.refl _))
 |succ n ih=>
  intro xs s Q h hQ
  cases xs with
  |nil=>cases h
  |cons x r=>
   unfold drawOrder
   refine wpAny_bind (aiL (by simp) fun i d hi=>?_)
   rw[List.getElem?_eq_getElem hi]
   dsimp only
   refine wpAny_bind (ih _ (by rw[List.length_eraseIdx_of_lt hi];omega) fun ys d' hp=>?_)
   exact wpAny_pure (hQ _ d' ((hp.cons _).trans (Ji hi)))
end
def gO(h:Heap)(I:Addr)(first:Value)(i:Nat)(a:Addr)(n ep:Nat):Prop:=∃o,h.get? I=some o∧o.cls= .type "set_iterator"∧∃t1 t2 t3,o.data= .fields #[first,.int i t1,.ref a,.int n t2,.int ep t3]
theorem gO.keep{h h':Heap}{I:Addr}{first:Value}{i:Nat}{a:Addr}{n ep:Nat}(x:gO h I first i a n ep)(k:∀o,h.get? I=some o→h'.get? I=some o):gO h' I first i a n ep:=
 let ⟨o,h1,r⟩:=x
 ⟨o,k o h1,r⟩
theorem gO.typeIs{s:Shared}{I:Addr}{first:Value}{i:Nat}{a:Addr}{n ep:Nat}(x:gO s.heap I first i a n ep):s.TypeIs (.ref I) "set_iterator":=let ⟨o,h1,h2,_⟩:=x;⟨o,h1,h2⟩
section
variable{prog:Program}{w:World}{A:Around}{E:Value→Shared→Prop}{s:Shared}{a:Addr}{es:Array (Int×Value)}{ep:Nat}{t:SetTable}
theorem Zw(hb:dR w=true)(S:dF w s.heap a es ep t){slot i:Nat}{Q:Option (Value×Nat)→Shared→Prop}(h:Q ((((pickOrder (w.params.setOrder a ep) es))[i]?).map fun e=>(e.2,slot)) s):wpAny (model prog w) A (setNext a slot i ep) Q E s:=by
 obtain⟨⟨o,ho,hex,hd⟩,hf,_,_⟩:=S
 unfold setNext
 refine wpAny_bind (wpAny_setState_of ho hd hf ?_)
 dsimp only
 unfold setsByText
 refine wpAny_bind (wpAny_bind (wpAny_askSetting (wpAny_pure ?_)))
 rw[if_pos (show(model prog w).w.params.followText "set-order"=true from hb),if_neg (by simp)]
 unfold setWalk
 refine wpAny_bind (wpAny_bind (wpAny_setState_of ho hd hf ?_))
 dsimp only
 unfold setsByText
 refine wpAny_bind (wpAny_bind (wpAny_askSetting (wpAny_pure ?_)))
 rw[if_pos (show(model prog w).w.params.followText "set-order"=true from hb)]
 exact wpAny_bind (wpAny_askSetting (wpAny_pure (wpAny_pure h)))
theorem Yy(hb:dR w=false)(hdr:(!t.plain&&decide (es.size>1))=false)(S:dF w s.heap a es ep t){slot i:Nat}{Q:Option (Value×Nat)→Shared→Prop}
 (h:Q (match es[SetTable.below t.place slot]?,t.place[SetTable.below t.place slot]? with|some (_,x),some j=>some (x,j+1)|_,_=>none) s):wpAny (model prog w) A (setNext a slot i ep) Q E s:=by
 obtain⟨⟨o,ho,hex,hd⟩,hf,_,hl⟩:=S
 unfold setNext
 refine wpAny_bind (wpAny_setState_of ho hd hf ?_)
 dsimp only
 unfold setsByText
 refine wpAny_bind (wpAny_bind (wpAny_askSetting (wpAny_pure ?_)))
 rw[if_neg (show ¬(model prog w).w.params.followText "set-order"=true by show ¬dR w=true;rw[hb];simp)]
 refine wpAny_ite_split (fun hc=>absurd (show(!t.plain&&decide (es.size>1))=true from hc) (by rw[hdr];simp)) fun _=>?_
 refine wpAny_bind ?_
 refine(show wpAny _ _ (if(!t.led&& !es.isEmpty)=true then unsupported "set:maker-not-led" else pure ()) _ _ s from ?_)
 rw[if_neg (by rw[hl,hb];simp)]
 exact wpAny_pure (wpAny_pure h)
theorem aag{I:Addr}{slot i n:Nat}{tk:Tok}{x:Value}{nx:Nat}{Q:Option Value→Shared→Prop}(it:gO s.heap I (.int slot tk) i a n ep)(S:dF w s.heap a es ep t)(hn:es.size=n)
 (N5:∀(A':Around) (E':Value→Shared→Prop) (Q':Option (Value×Nat)→Shared→Prop),Q' (some (x,nx)) s→wpAny (model prog w) A' (setNext a slot i ep) Q' E' s)
 (hQ:∀h',gO h' I (.int nx 0) (i+1) a n ep→Heap.SameBut I s.heap h'→Q (some x) {s with heap:=h'}):wpAny (model prog w) A (pyNext (.ref I)) Q E s:=by
 obtain⟨oI,hoI,vK,t1,t2,t3,hdI⟩:=id it
 obtain⟨⟨o,ho,hex,hd⟩,hf,_,_⟩:=id S
 unfold pyNext
 refine wpAny_bind (wpAny_attempt (wpAny_callSpecial?_slot (name:=Str.ofString "__next__") it.typeIs jE (wpAny_call_entry jE it.typeIs xU ?_ (z8 _))))
 unfold Builtin.«set_iterator.__next__»
 refine wpAny_bind (wpAny_pure ?_)
 refine wpAny_bind (wpAny_fieldsOf hoI hdI ?_)
 dsimp only
 refine wpAny_bind (wpAny_setEntries_of ho hd hf ?_)
 rw[if_neg (by rw[hn];simp)]
 refine wpAny_bind (N5 _ _ _ ?_)
 dsimp only
 refine wpAny_bind (wpAny_setField hoI hdI (by simp) ?_)
 have h1:=Heap.get?_update_self (Obj.mapFields (·.setIfInBounds 0 (rawInt nx))) hoI (Obj.isFreed_of_fields (Obj.data_mapFields hdI _))
 refine wpAny_bind (wpAny_setField h1 (Obj.data_mapFields hdI _) (by simp) ?_)
 have h2:=Heap.get?_update_self (Obj.mapFields (·.setIfInBounds 1 (rawInt ((i:Int)+1)))) h1 (Obj.isFreed_of_fields (Obj.data_mapFields (Obj.data_mapFields hdI _) _))
 refine wpAny_pure ⟨_,rfl,wpAny_pure (hQ _ ⟨_,h2,?_,0,t2,t3,?_⟩ ((Heap.SameBut.update ..).trans (Heap.SameBut.update ..)))⟩
 ·rw[Obj.cls_mapFields,Obj.cls_mapFields];exact vK
 ·rw[Obj.data_mapFields (Obj.data_mapFields hdI _)];simp[rawInt]
theorem aah{I:Addr}{slot i n:Nat}{tk:Tok}{Q:Option Value→Shared→Prop}(hh:A.handled=none)(it:gO s.heap I (.int slot tk) i a n ep)(S:dF w s.heap a es ep t)(hn:es.size=n)
 (N5:∀(A':Around) (E':Value→Shared→Prop) (Q':Option (Value×Nat)→Shared→Prop),Q' none s→wpAny (model prog w) A' (setNext a slot i ep) Q' E' s)
 (hQ:∀h',Heap.ExtBut I s.heap h'→Q none {s with heap:=h'}):wpAny (model prog w) A (pyNext (.ref I)) Q E s:=by
 obtain⟨oI,hoI,vK,t1,t2,t3,hdI⟩:=id it
 obtain⟨⟨o,ho,hex,hd⟩,hf,_,_⟩:=id S
 unfold pyNext
 refine wpAny_bind (wpAny_attempt (wpAny_callSpecial?_slot (name:=Str.ofString "__next__") it.typeIs jE (wpAny_call_entry jE it.typeIs xU ?_ (z8 _))))
 unfold Builtin.«set_iterator.__next__»
 refine wpAny_bind (wpAny_pure ?_)
 refine wpAny_bind (wpAny_fieldsOf hoI hdI ?_)
 dsimp only
 refine wpAny_bind (wpAny_setEntries_of ho hd hf ?_)
 rw[if_neg (by rw[hn];simp)]
 refine wpAny_bind (N5 _ _ _ ?_)
 dsimp only
 refine wpAny_bind (wpAny_setField hoI hdI (by simp) ?_)
 refine wpAny_bind ?_
 simp only[newExc,newTuple]
 refine wpAny_bind (wpAny_newObj_type ?_ (hd:=by size_fits))
 refine wpAny_bind (m:=firstArgMember _ _) (wpAny_of_eq (a:=Value.none) (by first|rfl|(simp only[firstArgMember];rfl)) (wpAny_newObj_type ?_ (hd:=by size_fits)))
 refine wpAny_raiseNew_none hh (wpAny_bind (wpAny_isInstance (T:="StopIteration") (b:=true) ⟨_,Heap.get?_push_size _ rfl,rfl⟩ isSubtype_stop ?_))
 exact wpAny_pure (hQ _ (((Heap.SameBut.update ..).extBut.push _).push _))
theorem agD{I:Addr}{f:Obj→Obj}{h1:Heap}{Q:Option Value→Shared→Prop}(hh:A.handled=none)(hQ:∀h',(∀b o,h1.get? b=some o→h'.get? b=some o)→Q none {s with heap:=h'}):
 wpAny (model prog w) A.in1 (do let e←newExc (.type "StopIteration") [];(raiseNew e:Sem Fin)) (fun fin s'=>∃v,fin= .done (.ret v)∧wpAny (model prog w) A (pure (some v)) Q E s')
  (fun e s'=>wpAny (model prog w) A (do let b←isInstance e (.type "StopIteration");if b=true then pure none else throw e) Q E s') {s with heap:=h1}:=by
 refine wpAny_bind ?_
 simp only[newExc,newTuple]
 refine wpAny_bind (wpAny_newObj_type ?_ (hd:=by size_fits))
 refine wpAny_bind (m:=firstArgMember _ _) (wpAny_of_eq (a:=Value.none) (by first|rfl|(simp only[firstArgMember];rfl)) (wpAny_newObj_type ?_ (hd:=by size_fits)))
 refine wpAny_raiseNew_none hh (wpAny_bind (wpAny_isInstance (T:="StopIteration") (b:=true) ⟨_,Heap.get?_push_size _ rfl,rfl⟩ isSubtype_stop ?_))
 exact wpAny_pure (hQ _ fun b o e=>Heap.get?_push_of_some _ (Heap.get?_push_of_some _ e))
def qP(h:Heap)(T:Addr)(ps:List Nat):Prop:=∃o n,h.get? T=some o∧o.data= .seq (ps.map fun(i:Nat)=>rawInt (i:Int)).toArray n
theorem qP.keep{h h':Heap}{T:Addr}{ps:List Nat}(x:qP h T ps)(k:∀o,h.get? T=some o→h'.get? T=some o):qP h' T ps:=
 let ⟨o,n,h1,h2⟩:=x
 ⟨o,n,k o h1,h2⟩
theorem ahE{I T:Addr}{i n p:Nat}{ps:List Nat}{x:Value}{Q:Option Value→Shared→Prop}(it:gO s.heap I (.ref T) i a n ep)(S:dF w s.heap a es ep t)(hn:es.size=n)(hps:qP s.heap T ps)(hp:ps[i]? =some p)(hx:(es[p]?).map (·.2)=some x)
 (hQ:∀h',gO h' I (.ref T) (i+1) a n ep→Heap.SameBut I s.heap h'→Q (some x) {s with heap:=h'}):wpAny (model prog w) A (pyNext (.ref I)) Q E s:=by
 obtain⟨oI,hoI,vK,t1,t2,t3,hdI⟩:=id it
 obtain⟨⟨o,ho,hex,hd⟩,hf,_,_⟩:=id S
 obtain⟨oT,nT,hoT,hdT⟩:=hps
 obtain⟨⟨hv,x'⟩,hq,ex⟩:=Option.map_eq_some_iff.mp hx
 dsimp only at ex
 subst ex
 unfold pyNext
 refine wpAny_bind (wpAny_attempt (wpAny_callSpecial?_slot (name:=Str.ofString "__next__") it.typeIs jE (wpAny_call_entry jE it.typeIs xU ?_ (z8 _))))
 unfold Builtin.«set_iterator.__next__»
 refine wpAny_bind (wpAny_pure ?_)
 refine wpAny_bind (wpAny_fieldsOf hoI hdI ?_)
 dsimp only
 refine wpAny_bind (wpAny_setEntries_of ho hd hf ?_)
 rw[if_neg (by rw[hn];simp)]
 refine wpAny_bind (wpAny_seqItems hoT hdT ?_)
 have hpi:((ps.map fun(i:Nat)=>rawInt (i:Int)).toArray)[((i:Nat):Int).toNat]? =some (.int (p:Int) 0):=by simp[hp,rawInt]
 dsimp only
 rw[hpi]
 refine wpAny_bind ?_
 unfold setNextDrawn
 refine wpAny_bind (wpAny_setState_of ho hd hf ?_)
 dsimp only
 rw[if_neg (by simp),Int.toNat_natCast,hq]
 refine wpAny_pure (wpAny_bind (wpAny_setField hoI hdI (by simp) ?_))
 have h1:=Heap.get?_update_self (Obj.mapFields (·.setIfInBounds 1 (rawInt ((i:Int)+1)))) hoI (Obj.isFreed_of_fields (Obj.data_mapFields hdI _))
 refine wpAny_pure ⟨_,rfl,wpAny_pure (hQ _ ⟨_,h1,?_,0,t2,t3,?_⟩ (Heap.SameBut.update ..))⟩
 ·rw[Obj.cls_mapFields];exact vK
 ·rw[Obj.data_mapFields hdI];simp[rawInt]
theorem adU{I T:Addr}{i n:Nat}{ps:List Nat}{Q:Option Value→Shared→Prop}(hh:A.handled=none)(it:gO s.heap I (.ref T) i a n ep)(S:dF w s.heap a es ep t)(hn:es.size=n)(hps:qP s.heap T ps)(hp:ps[i]? =none)
 (hQ:∀h',Heap.ExtBut I s.heap h'→Q none {s with heap:=h'}):wpAny (model prog w) A (pyNext (.ref I)) Q E s:=by
 obtain⟨oI,hoI,vK,t1,t2,t3,hdI⟩:=id it
 obtain⟨⟨o,ho,hex,hd⟩,hf,_,_⟩:=id S
 obtain⟨oT,nT,hoT,hdT⟩:=hps
 unfold pyNext
 refine wpAny_bind (wpAny_attempt (wpAny_callSpecial?_slot (name:=Str.ofString "__next__") it.typeIs jE (wpAny_call_entry jE it.typeIs xU ?_ (z8 _))))
 unfold Builtin.«set_iterator.__next__»
 refine wpAny_bind (wpAny_pure ?_)
 refine wpAny_bind (wpAny_fieldsOf hoI hdI ?_)
 dsimp only
 refine wpAny_bind (wpAny_setEntries_of ho hd hf ?_)
 rw[if_neg (by rw[hn];simp)]
 refine wpAny_bind (wpAny_seqItems hoT hdT ?_)
 have hpi:((ps.map fun(i:Nat)=>rawInt (i:Int)).toArray)[((i:Nat):Int).toNat]? =none:=by simpa using hp
 dsimp only
 rw[hpi]
 refine wpAny_bind (wpAny_setField hoI hdI (by simp) ?_)
 have h1:=Heap.get?_update_self (Obj.mapFields (·.setIfInBounds 0 (rawInt 0))) hoI (Obj.isFreed_of_fields (Obj.data_mapFields hdI _))
 refine wpAny_bind (wpAny_setField h1 (Obj.data_mapFields hdI _) (by simp) ?_)
 refine agD (I:=I) (f:=id) hh fun h' k=>hQ h' fun b o hb e=>k b o ?_
 exact(Heap.get?_update_other _ _ (Ne.symm hb)).trans ((Heap.get?_update_other _ _ (Ne.symm hb)).trans e)
theorem ajU{Q:Value→Shared→Prop}(S:dF w s.heap a es ep t)(hz:es.size≤4096)
 (h1:(!dR w&&(!t.plain&&decide (es.size>1)))=false→Q (.ref s.heap.objs.size) {s with heap:=s.heap.push {cls:=.type "set_iterator",data:=.fields #[rawInt 0,rawInt 0,.ref a,rawInt es.size,rawInt ep]}})
 (h2:(!dR w&&(!t.plain&&decide (es.size>1)))=true→∀ps d,List.Perm ps (List.range es.size)→Q (.ref (s.heap.objs.size+1)) {s with heap:=(s.heap.push {cls:=.type "tuple",data:=.seq (ps.map fun(i:Nat)=>rawInt (i:Int)).toArray}).push {cls:=.type "set_iterator",data:=.fields #[.ref s.heap.objs.size,rawInt 0,.ref a,rawInt es.size,rawInt ep]},drawn:=d}):
 wpAny (model prog w) A (pyIter (.ref a)) Q E s:=by
 obtain⟨⟨o,ho,hex,hd⟩,hf,_,_⟩:=id S
 have hT:s.TypeIs (.ref a) "set":=⟨o,ho,hex.1⟩
 refine wpAny_pyIter_slot hT F.slot_set_iter (wpAny_call_entry F.slot_set_iter hT adu ?_ (F.args_set_iter_1 _))
 unfold Builtin.«frozenset.__iter__» Builtin.Frozenset.slot0 Builtin.Frozenset.addrOf Builtin.Frozenset.sizeOf
 refine wpAny_bind (wpAny_bind (wpAny_pure (wpAny_pure ?_)))
 refine wpAny_bind (wpAny_bind (wpAny_setEntries_of ho hd hf (wpAny_pure ?_)))
 refine wpAny_bind ?_
 unfold setDrawn
 refine wpAny_bind (wpAny_setState_of ho hd hf ?_)
 dsimp only
 unfold setsByText
 refine wpAny_bind (wpAny_bind (wpAny_askSetting (wpAny_pure (wpAny_pure ?_))))
 refine wpAny_ite_split (fun hc=>?_) fun hc=>?_
 ·have hc':(!dR w&&(!t.plain&&decide (es.size>1)))=true:=hc
  refine wpAny_bind (afy _ _ (List.length_range ..) fun ps d hp=>?_)
  refine wpAny_bind (wpAny_newTuple (hsz:=by rw[List.length_map,hp.length_eq,List.length_range,sizeLine_eq];omega) ?_)
  have ho2:=Heap.get?_push_of_some {cls:=.type "tuple",data:=.seq (ps.map fun(i:Nat)=>rawInt (i:Int)).toArray} ho
  refine wpAny_bind (wpAny_setEpoch_of (s:={s with heap:=s.heap.push {cls:=.type "tuple",data:=.seq (ps.map fun(i:Nat)=>rawInt (i:Int)).toArray},drawn:=d}) ho2 hd hf ?_)
  refine wpAny_bind (wpAny_newObj_type (hd:=by size_fits) (wpAny_pure ⟨_,rfl,"set_iterator",_,⟨_,Heap.get?_push_size _ rfl,rfl⟩,jE.lookup,?_⟩))
  have:=h2 hc' ps d hp
  rwa [show(s.heap.push {cls:=.type "tuple",data:=.seq (ps.map fun(i:Nat)=>rawInt (i:Int)).toArray}).objs.size=s.heap.objs.size+1 from Heap.size_push ..]
 ·have hc':(!dR w&&(!t.plain&&decide (es.size>1)))=false:=by
   cases e:(!dR w&&(!t.plain&&decide (es.size>1))) with
   |false=>rfl
   |true=>exact absurd e hc
  refine wpAny_bind (wpAny_pure (wpAny_bind (wpAny_setEpoch_of ho hd hf ?_)))
  exact wpAny_bind (wpAny_newObj_type (hd:=by size_fits) (wpAny_pure ⟨_,rfl,"set_iterator",_,⟨_,Heap.get?_push_size _ rfl,rfl⟩,jE.lookup,h1 hc'⟩))
theorem Lq{I:Addr}{first:Value}{i n:Nat}{Q:Value→Shared→Prop}(it:gO s.heap I first i a n ep)(h:Q (.ref I) s):wpAny (model prog w) A (pyIter (.ref I)) Q E s:=by
 refine wpAny_pyIter_slot it.typeIs Ue (wpAny_call_entry Ue it.typeIs adv ?_ (adT _))
 exact(show wpAny _ _ (ret (.ref I)) _ _ s from wpAny_pure ⟨_,rfl,"set_iterator",_,it.typeIs,jE.lookup,h⟩)
def slotAt(t:SetTable):Nat→Nat
 |0=>0
 |i+1=>t.place.getD i 0+1
theorem V2{t:SetTable}(hr:fj t.place):∀i,i≤t.place.size→SetTable.below t.place (slotAt t i)=i
 |0,_=>afx hr
 |i+1,h=>afw hr (by omega)
theorem ahF(hh:A.handled=none)(S:dF w s.heap a es ep t)(hz:es.size≤4096){Q:Value→Shared→Prop}
 (h:∀(h':Heap) (d:Drawn) (I:Addr) (fp:List Addr) (us:List Value) (St:Nat→Heap→Prop),List.Perm us (es.toList.map (·.2))→(∀b o,s.heap.get? b=some o→h'.get? b=some o)→s.heap.objs.size≤I→(∀b∈fp,b=a∨s.heap.objs.size≤b∧b<h'.objs.size)→
   Walks prog w A I fp [I] us.length (fun i v=>us[i]? =some v) St→St 0 h'→Q (.ref I) {s with heap:=h',drawn:=d}):wpAny (model prog w) A (pyIter (.ref a)) Q E s:=by
 have haI:a<s.heap.objs.size:=let ⟨o,ho,_⟩:=S.at_;Heap.lt_size ho
 have hpl:t.place.size=es.size:=by
  have:=S.fits
  unfold SetTable.fits at this
  simp only[Bool.and_eq_true,beq_iff_eq] at this
  exact this.1
 refine ajU S hz (fun hc=>?_) fun hc ps d hp=>?_
 ·have hI:a≠s.heap.objs.size:=Nat.ne_of_lt haI
  have hnew:∀b∈[s.heap.objs.size,a],b=a∨s.heap.objs.size≤b∧b<(s.heap.push {cls:=.type "set_iterator",data:=.fields #[rawInt 0,rawInt 0,.ref a,rawInt es.size,rawInt ep]}).objs.size:=fun b hb=>by
   rw[Heap.size_push]
   rcases List.mem_cons.mp hb with rfl|hb
   ·exact .inr ⟨Nat.le_refl _,Nat.lt_succ_self _⟩
   ·exact .inl (List.mem_singleton.mp hb)
  cases hb:dR w with
  |true=>
   have hpk:=agC (w.params.setOrder a ep) es
   have hl:((pickOrder (w.params.setOrder a ep) es).toList.map (·.2)).length=es.size:=by rw[List.length_map,hpk.length_eq,Array.length_toList]
   refine h _ s.drawn _ _ ((pickOrder (w.params.setOrder a ep) es).toList.map (·.2)) (fun i h'=>(∃(slot:Nat) (tk:Tok),gO h' s.heap.objs.size (.int slot tk) i a es.size ep)∧dF w h' a es ep t) (hpk.map _) (fun b o e=>Heap.get?_push_of_some _ e) (Nat.le_refl _) hnew ⟨?_,?_,?_,?_,?_⟩ ⟨⟨0,0,_,Heap.get?_push_size _ rfl,rfl,0,0,0,rfl⟩,S.keep fun o e=>Heap.get?_push_of_some _ e⟩
   ·intro b hb;simp at hb;simp[hb]
   ·exact fun i h1 h2 ⟨⟨sl,tk,it⟩,S1⟩ k=>⟨⟨sl,tk,it.keep fun o e=>k _ (by simp) o e⟩,S1.keep fun o e=>k _ (by simp) o e⟩
   ·intro i s1 Q1 E1 hi ⟨⟨sl,tk,it⟩,S1⟩ hQ
    have hi':i<(pickOrder (w.params.setOrder a ep) es).size:=by rw[List.length_map,Array.length_toList] at hi;exact hi
    refine aag (x:=(pickOrder (w.params.setOrder a ep) es)[i].2) (nx:=sl) it S1 rfl (fun A' E' Q' q=>Zw hb S1 (by simpa [hi'] using q)) fun h' it' sb=>hQ _ h' s1.toks (by simp[hi']) ⟨⟨sl,0,it'⟩,S1.keep fun o e=>(sb.2 a hI).trans e⟩ fun b o hb e=>(sb.2 b fun z=>hb (by simp[z])).trans e
   ·intro s1 Q1 E1 ⟨⟨sl,tk,it⟩,S1⟩ hQ
    rw[hl] at it
    refine aah hh it S1 rfl (fun A' E' Q' q=>Zw hb S1 ?_) fun h' eb=>hQ h' s1.toks fun b o hb e=>eb b o (fun z=>hb (by simp[z])) e
    rw[Array.getElem?_eq_none (by rw[←Array.length_toList,hpk.length_eq,Array.length_toList];exact Nat.le_refl _)]
    exact q
   ·exact fun i s1 Q1 E1 ⟨⟨sl,tk,it⟩,_⟩ hQ=>Lq it hQ
  |false=>
   have hdr:(!t.plain&&decide (es.size>1))=false:=by rw[hb] at hc;simpa using hc
   refine h _ s.drawn _ _ (es.toList.map (·.2)) (fun i h'=>(∃tk:Tok,gO h' s.heap.objs.size (.int (slotAt t i) tk) i a es.size ep)∧dF w h' a es ep t) (.refl _) (fun b o e=>Heap.get?_push_of_some _ e) (Nat.le_refl _) hnew ⟨?_,?_,?_,?_,?_⟩ ⟨⟨0,_,Heap.get?_push_size _ rfl,rfl,0,0,0,rfl⟩,S.keep fun o e=>Heap.get?_push_of_some _ e⟩
   ·intro b hb;simp at hb;simp[hb]
   ·exact fun i h1 h2 ⟨⟨tk,it⟩,S1⟩ k=>⟨⟨tk,it.keep fun o e=>k _ (by simp) o e⟩,S1.keep fun o e=>k _ (by simp) o e⟩
   ·intro i s1 Q1 E1 hi ⟨⟨tk,it⟩,S1⟩ hQ
    have hi':i<es.size:=by rw[List.length_map,Array.length_toList] at hi;exact hi
    refine aag (x:=es[i].2) (nx:=t.place.getD i 0+1) it S1 rfl (fun A' E' Q' q=>Yy hb hdr S1 ?_) fun h' it' sb=>hQ _ h' s1.toks (by simp[hi']) ⟨⟨0,it'⟩,S1.keep fun o e=>(sb.2 a hI).trans e⟩ fun b o hb e=>(sb.2 b fun z=>hb (by simp[z])).trans e
    rw[V2 S1.rise i (by omega)]
    have hi2:i<t.place.size:=by omega
    simpa [hi',hi2,Array.getD] using q
   ·intro s1 Q1 E1 ⟨⟨tk,it⟩,S1⟩ hQ
    rw[List.length_map,Array.length_toList] at it
    refine aah hh it S1 rfl (fun A' E' Q' q=>Yy hb hdr S1 ?_) fun h' eb=>hQ h' s1.toks fun b o hb e=>eb b o (fun z=>hb (by simp[z])) e
    rw[V2 S1.rise es.size (by omega)]
    simpa using q
   ·exact fun i s1 Q1 E1 ⟨⟨tk,it⟩,_⟩ hQ=>Lq it hQ
 ·have hlen:ps.length=es.size:=by rw[hp.length_eq,List.length_range]
  have hlt:∀p∈ps,p<es.size:=fun p hm=>List.mem_range.mp (hp.mem_iff.mp hm)
  have hI:a≠s.heap.objs.size+1:=Nat.ne_of_lt (Nat.lt_succ_of_lt haI)
  have hT1:s.heap.objs.size≠s.heap.objs.size+1:=Nat.ne_of_lt (Nat.lt_succ_self _)
  have hus:(ps.map fun p=>(es.toList.map (·.2)).getD p .none).length=es.size:=by rw[List.length_map,hlen]
  have hsz1:(s.heap.push {cls:=.type "tuple",data:=.seq (ps.map fun(i:Nat)=>rawInt (i:Int)).toArray}).objs.size=s.heap.objs.size+1:=Heap.size_push ..
  refine h _ d _ [s.heap.objs.size+1,a,s.heap.objs.size] (ps.map fun p=>(es.toList.map (·.2)).getD p .none) (fun i h'=>gO h' (s.heap.objs.size+1) (.ref s.heap.objs.size) i a es.size ep∧dF w h' a es ep t∧qP h' s.heap.objs.size ps) ?_ (fun b o e=>Heap.get?_push_of_some _ (Heap.get?_push_of_some _ e)) (Nat.le_succ _) (fun b hb=>?_) ⟨?_,?_,?_,?_,?_⟩ ⟨⟨_,by rw[←hsz1];exact Heap.get?_push_size _ rfl,rfl,0,0,0,rfl⟩,S.keep fun o e=>Heap.get?_push_of_some _ (Heap.get?_push_of_some _ e),⟨_,_,Heap.get?_push_of_some _ (Heap.get?_push_size _ rfl),rfl⟩⟩
  ·refine(hp.map _).trans ?_
   have:(List.range es.size).map (fun p=>(es.toList.map (·.2)).getD p .none)=es.toList.map (·.2):=by
    refine List.ext_getElem (by simp) fun i h1 h2=>?_
    simp[List.getD,h2]
    have:i<es.size:=by simpa using h1
    simp[this]
   rw[this]
  ·rw[Heap.size_push,hsz1]
   simp only[List.mem_cons,List.not_mem_nil,or_false] at hb
   rcases hb with rfl|rfl|rfl
   ·exact .inr ⟨Nat.le_succ _,Nat.lt_succ_self _⟩
   ·exact .inl rfl
   ·exact .inr ⟨Nat.le_refl _,Nat.lt_succ_of_lt (Nat.lt_succ_self _)⟩
  ·intro b hb;simp at hb;simp[hb]
  ·exact fun i h1 h2 ⟨it,S1,pl⟩ k=>⟨it.keep fun o e=>k _ (by simp) o e,S1.keep fun o e=>k _ (by simp) o e,pl.keep fun o e=>k _ (by simp) o e⟩
  ·intro i s1 Q1 E1 hi ⟨it,S1,pl⟩ hQ
   have hi':i<ps.length:=by rw[List.length_map] at hi;exact hi
   have hpi:=hlt ps[i] (List.getElem_mem hi')
   refine ahE (p:=ps[i]) (x:=es[ps[i]].2) it S1 rfl pl (List.getElem?_eq_getElem hi') (by simp[hpi]) fun h' it' sb=>hQ _ h' s1.toks (by simp[hi',hpi,List.getD]) ⟨it',S1.keep fun o e=>(sb.2 a hI).trans e,pl.keep fun o e=>(sb.2 _ hT1).trans e⟩ fun b o hb e=>(sb.2 b fun z=>hb (by simp[z])).trans e
  ·intro s1 Q1 E1 ⟨it,S1,pl⟩ hQ
   rw[hus] at it
   exact adU hh it S1 rfl pl (List.getElem?_eq_none (by omega)) fun h' eb=>hQ h' s1.toks fun b o hb e=>eb b o (fun z=>hb (by simp[z])) e
  ·exact fun i s1 Q1 E1 ⟨it,_,_⟩ hQ=>Lq it hQ
end
section
variable{prog:Program}{w:World}{A:Around}{E:Value→Shared→Prop}{s:Shared}{a:Addr}{es:Array (Int×Value)}{ep:Nat}{t:SetTable}
theorem ahG{Q:Bool→Shared→Prop}(hT:s.TypeIs (.ref a) "set")(h:Q false s):wpAny (model prog w) A (Builtin.List.listLengthHint (.ref a)) Q E s:=by
 unfold Builtin.List.listLengthHint
 refine wpAny_bind (wpAny_specialOf hT PySem.F.slot_set_len.lookup ?_)
 generalize hid:("set.__len__":String)=id0
 wp_delta
 rw[show splitId id0=some ("set","__len__") from by subst hid;decide+kernel]
 subst hid
 refine wpAny_bind (wpAny_isInstance (T:="set") (b:=true) hT (by rw[isSubtype_type];kernel_rfl) ?_)
 refine wpAny_ite_split (fun z=>absurd z (by decide)) (fun _=>?_)
 refine wpAny_ite_split (fun _=>?_) (fun z=>absurd (by decide+kernel) z)
 exact wpAny_bind (wpAny_typeOf hT (wpAny_pure h))
theorem aiM{R:Result→Shared→Prop}(hh:A.handled=none)(S:dF w s.heap a es ep t)(hz:es.size≤4096)(L:Addr)(hLa:L≠a)(res:Value)(c₀:Nat)(hL:s.heap.get? L=some {cls:=.type "list",data:=.seq #[] c₀})
 (hR:∀h' tk d us c',List.Perm us (es.toList.map (·.2))→(∀b o,b≠L→s.heap.get? b=some o→h'.get? b=some o)→h'.get? L=some {cls:=.type "list",dict:=none,data:=.seq us.toArray c',slots:= #[]}→R (.ok (.ret res)) {s with heap:=h',toks:=tk,drawn:=d}):
 wpAny (model prog w) A.in1 (Builtin.List.listExtendWith (.ref L) (.ref a) res) (fun fin s'=>match fin with| .done f=>R (.ok f) s'| .again c'=>c'.quiet=true∧codeAny (model prog w) A c' R s') (fun e s'=>R (.error e) s') s:=by
 have hT:s.TypeIs (.ref a) "set":=let ⟨o,ho,hex,_⟩:=S.at_;⟨o,ho,hex.1⟩
 have hLs:L<s.heap.objs.size:=Heap.lt_size hL
 unfold Builtin.List.listExtendWith
 refine wpAny_bind (wpAny_typeOf (T:="set") hT ?_)
 have h1:Builtin.List.listSameRef (.ref L) (.ref a)=false:=by simp[Builtin.List.listSameRef,hLa]
 have h2:(Value.type "set"==Value.type "list")=false:=by decide
 have h3:(Value.type "set"==Value.type "tuple")=false:=by decide
 simp only[h1,h2,h3,Bool.or_false,Bool.false_eq_true,if_false]
 refine wpAny_bind (ahF (A:=A.in1) (show A.in1.handled=none from hh) S hz fun h' d I fp us St hp hk hI hfp W st=>?_)
 have hLf:L∉fp:=fun hm=>by
  rcases hfp L hm with z|z
  ·exact hLa z
  ·exact absurd hLs (Nat.not_lt.mpr z.1)
 have vL:us.length≤sizeLine:=by
  rw[hp.length_eq,List.length_map,Array.length_toList,sizeLine_eq]
  omega
 have key:∀(h1:Heap) (c₁ tk:Nat),St 0 h1→(∀b o,b≠L→s.heap.get? b=some o→h1.get? b=some o)→h1.get? L=some {cls:=.type "list",data:=.seq #[] c₁}→
  codeAny (model prog w) A (.builtin "list.extend.loop" ⟨[.ref L,.ref I,res],[]⟩) R {s with heap:=h1,toks:=tk,drawn:=d}:=by
  intro h1 c₁ tk hst hk1 hL1
  refine codeAny_extend_loopS W.toS vL L hLf res us.length 0 _ #[] c₁ rfl (Nat.zero_le _) hst hL1 (ItemsOf.nil _) fun s' acc' c' hm hL' hacc=>?_
  rw[Moved.eq_with hm]
  have hus:acc'=us.toArray:=by
   obtain⟨a1,a2⟩:=hacc
   refine Array.ext (by simp[a1]) fun i hi1 hi2=>?_
   have:=show us[i]? =some acc'[i] from a2 i acc'[i] (by simp[hi1])
   have hi3:i<us.length:=by simpa using hi2
   rw[List.getElem?_eq_getElem hi3] at this
   simpa using(Option.some.inj this).symm
  subst hus
  refine hR s'.heap s'.toks d us c' hp (fun b o hb e=>hm.heap b o (fun hmem=>?_) (hk1 b o hb e)) hL'
  rcases List.mem_cons.mp hmem with z|z
  ·exact hb z
  ·exact absurd (Heap.lt_size e) (Nat.not_lt.mpr (by rw[List.mem_singleton.mp z];exact hI))
 have hL1:=hk _ _ hL
 refine wpAny_bind (wpAny_holding (ahG (let ⟨o,ho,hc⟩:=hT;⟨o,hk _ _ ho,hc⟩) ?_))
 refine wpAny_ite_split (fun _=>?_) (fun _=>wpAny_pure ⟨plainId_quiet PySem.F.plain_extend_loop _,key _ c₀ _ st (fun b o _ e=>hk b o e) hL1⟩)
 refine wpAny_bind (wpAny_rule (wpAny_bind (show wpAny _ _ (updateSeq L (·.push .none) >>= fun _=>updateSeq L (·.pop)) _ _ _ from ?_)))
 refine wpAny_bind (wpAny_updateSeq hL1 rfl ?_)
 have hL2:=Heap.get?_update_self (Obj.mapSeq (·.push Value.none)) hL1 rfl
 refine wpAny_updateSeq (hz:=by seq_fits) hL2 rfl ?_
 have CJ:=Heap.get?_update_self (Obj.mapSeq (·.pop)) hL2 rfl
 refine wpAny_pure ⟨plainId_quiet PySem.F.plain_extend_loop _,key _ _ _ (W.frame 0 _ _ st fun b hb o e=>?_) (fun b o hb e=>?_) CJ⟩
 ·have hbL:b≠L:=fun z=>hLf (z▸hb)
  exact(Heap.get?_update_other _ _ (Ne.symm hbL)).trans ((Heap.get?_update_other _ _ (Ne.symm hbL)).trans e)
 ·exact(Heap.get?_update_other _ _ (Ne.symm hb)).trans ((Heap.get?_update_other _ _ (Ne.symm hb)).trans (hk b o e))
theorem aeE{Q:List Value→Shared→Prop}(hh:A.handled=none)(S:dF w s.heap a es ep t)(hz:es.size≤4096)
 (h:∀h' tk d us,List.Perm us (es.toList.map (·.2))→(∀b o,s.heap.get? b=some o→h'.get? b=some o)→s.heap.objs.size≤h'.objs.size→Q us {s with heap:=h',toks:=tk,drawn:=d}):wpAny (model prog w) A (collect (.ref a)) Q E s:=by
 unfold collect
 have haS:a<s.heap.objs.size:=let ⟨o,ho,_⟩:=S.at_;Heap.lt_size ho
 refine wpAny_bind (wpAny_runValue (codeAny_builtin entry_proto_collect' ?_))
 refine(show wpAny _ _ (do again (.builtin "list.__iadd__" ⟨[←newList [],.ref a],[]⟩)) _ _ s from ?_)
 refine wpAny_bind (wpAny_newList (wpAny_pure ⟨Code.quiet_builtin _ (by decide+kernel),codeAny_builtin entry_list_iadd' ?_⟩))
 rw[Around.under_plainId (show plainId "list.__iadd__"=true by decide+kernel) _]
 refine(show wpAny _ _ (Builtin.List.listExtendWith (.ref s.heap.objs.size) (.ref a) (.ref s.heap.objs.size)) _ _ {s with heap:=s.heap.push (seqObj "list" #[] 0)} from ?_)
 refine aiM (R:=wants (fun v s'=>wpAny (model prog w) A (match v with| .ref a=>(do let o←load a;match o.data with| .seq xs _=>pure xs.toList|_=>unsupported "internal:collect")|_=>unsupported "internal:collect") Q E s') E) (s:={s with heap:=s.heap.push (seqObj "list" #[] 0)}) (by simpa using hh) (S.keep fun o e=>Heap.get?_push_of_some _ e) hz s.heap.objs.size (Nat.ne_of_gt haS) (.ref s.heap.objs.size) 0 (Heap.get?_push_size _ rfl) fun h' tk d us c' hp hk hL=>?_
 refine wpAny_bind (wpAny_load hL (wpAny_pure ?_))
 have:=h h' tk d us hp (fun b o e=>hk b o (Nat.ne_of_lt (Heap.lt_size e)) (Heap.get?_push_of_some _ e)) (Nat.le_of_lt (Heap.lt_size hL))
 simpa using this
theorem afz{ks:List Int}{Q:Value→Shared→Prop}(hh:A.handled=none)(S:dF w s.heap a es ep t)(hz:es.size≤4096)(hI:IntsAre (es.toList.map (·.2)) ks)
 (h:∀h' tk d out (ns':List Int) p e,IntsAre out ns'→ns'.Perm ks→ns'.Pairwise (· ≤ ·)→(∀b o,s.heap.get? b=some o→h'.get? b=some o)→s.heap.objs.size≤p→h'.get? p=some {cls:=.type "list",data:=.seq out.toArray e}→Q (.ref p) {s with heap:=h',toks:=tk,drawn:=d}):
 wpAny (model prog w) A (call (.builtin "sorted") [.ref a]) Q E s:=by
 refine Calls.call_function_entry kind_sorted plain_sorted entry_sorted (args_sorted1 _) ?_
 unfold Builtin.«sorted»
 refine wpAny_bind (m:=checkCount "sorted" 1 1 _) (wpAny_pure (wpAny_bind (aeE (by simpa using hh) S hz fun h' tk d us hp hk hsz=>?_)))
 obtain⟨ls,hl1,hl2⟩:=Xc hp hI
 have vL:us.length≤sizeLine:=by
  rw[hp.length_eq,List.length_map,Array.length_toList,sizeLine_eq]
  omega
 refine wpAny_bind (wpAny_newList (hsz:=vL) ?_)
 have hoL:(h'.push (seqObj "list" us.toArray 0)).get? h'.objs.size=some (seqObj "list" us.toArray 0):=Heap.get?_push_size _ rfl
 refine(show wpAny _ _ _ _ _ {s with heap:=h'.push (seqObj "list" us.toArray 0),toks:=tk,drawn:=d} from ?_)
 refine wpAny_bind (wpAny_holding (wpAny_call_entry slot_list_sort ⟨_,hoL,rfl⟩ entry_list_sort (list_sort_treeAny hoL hl1 vL fun out ns' a1 a2 a3=>⟨_,rfl,?_⟩) (args_list_sort _)))
 obtain⟨e,he⟩:=sortedHeap_at (vs:=us) (out:=out) hoL
 refine wpAny_pure ⟨_,rfl,h _ tk d out.toList ns' _ e a1 (a2.trans hl2) a3 (fun b o q=>?_) hsz (by simpa using he)⟩
 have hb:b<h'.objs.size:=Heap.lt_size (hk b o q)
 rw[sortedHeap_old (Nat.ne_of_lt hb) (by rw[Heap.size_push];exact Nat.lt_succ_of_lt hb)]
 exact Heap.get?_push_of_some _ (hk b o q)
end
section
variable{X:Cx}
theorem ahH{pins:List (Addr×Obj)}{σ:L2.St}{H:Hp}{s:Shared}(I:Inv X pins σ H s)(d:Drawn):Inv X pins σ H {s with drawn:=d}:=⟨I.ok,I.os,I.bare,I.base,I.loc,I.cell,I.free,I.jl,I.pin,I.hok,I.len⟩
def Ky(K:PySem.W.Frag)(t:TA):TE:=fun σ H Q=>t σ H fun vs H1=>∃(a:Addr) (ns:List Int),vs=[.ref a]∧au K H1 a (ns.map V.int)∧ns.length≤4000∧
 ∀(ns':List Int) (p:Addr),ns'.Pairwise (· < ·)→(∀k,k∈ns'↔k∈ns)→H1 p=none→Q (.ref p) (upd H1 p (.lst (ns'.map V.int)))
theorem agE:bootBuiltins "set"=some (.type "set"):=by kernel_rfl
theorem Yz:∀{l:List Int},l.Pairwise (· ≤ ·)→l.Nodup→l.Pairwise (· < ·)
 | [],_,_=>.nil
 |a::r,h,nd=>by
  rw[List.pairwise_cons] at h⊢
  rw[List.nodup_cons] at nd
  refine⟨fun b hb=>?_,Yz h.2 nd.2⟩
  have h1:=h.1 b hb
  have h2:a≠b:=fun e=>nd.1 (by rw[e];exact hb)
  omega
theorem V3{a:Expr}{ta:TA}{p p1 pos1 pos2:Pos}(hcalm:X.calm=true)(hg:Gl X "sorted")(hm:X.mg "sorted"=none)(hg2:Gl X "set")(hm2:X.mg "set"=none)(ha:PA X [a] ta)(hs:starEach [a] X.env=[(false,eval a X.env)]:=by rfl)
 (hs2:starEach [.Call (.Name "set" p1) [a] [] pos1] X.env=[(false,eval (.Call (.Name "set" p1) [a] [] pos1) X.env)]:=by rfl):PE X (.Call (.Name "sorted" p) [.Call (.Name "set" p1) [a] [] pos1] [] pos2) (Ky X.K ta):=by
 intro pins s σ H Q I h
 refine wpAny_Call_Name_kw (lW I hg hm Uc ?_)
 refine Calls.callWith_builtin (by rw[hs2];rfl) (Calls.evalArgs_plain ?_)
 refine(show wpAny _ _ (spliced ((false,eval (.Call (.Name "set" p1) [a] [] pos1) X.env)::[])) _ _ s from Calls.spliced_cons ?_)
 refine Call_ (lW I hg2 hm2 agE (PyProof.Rows.callWith_type1 (aN (ha pos1 pins s σ H _ I h) fun us s1 ⟨vs,H1,I1,r1,q1⟩=>?_) hs rfl))
 obtain⟨l,ns,ev,hl,hn,q⟩:=q1
 subst ev
 rw[Vals.vf r1]
 obtain⟨its,rv,hls,hz⟩:=I1.list hl
 have hi:=rv.ints
 have hlen:=hi.length
 refine aeD (I1.ok.hd hcalm) hls.isList (by simpa using hi) (by rw[List.size_toArray];unfold scanBound;omega) fun h' tk es ep t ks S Hd hold=>?_
 refine Calls.spliced_nil ?_
 have I2:Inv X pins σ H1 {s1 with heap:=h',toks:=tk}:=I1.kept (t':=tk) fun b o e=>hold b o (Heap.lt_size e) e
 have hsz:es.size≤4096:=by
  have h1:=Hd.num.length
  have h2:=Hd.le
  rw[List.length_map,Array.length_toList] at h1
  omega
 refine afz (s:={s1 with heap:=h',toks:=tk}) (I1.ok.hd hcalm) S hsz Hd.num fun h2 tk2 d out ns' p2 e a1 a2 a3 hk hp he=>?_
 have I3:=(ahH I2 d).laid (h':=h2) (t':=tk2) (a:=p2) (o:=.lst (ns'.map V.int)) hk hp ⟨?_,out,e,Hg a1,he⟩
 ·refine⟨.ref p2,_,I3,rfl,q ns' p2 (Yz a3 (a2.nodup_iff.mpr Hd.nd)) (fun k=>by rw[a2.mem_iff,Hd.mem]) (I2.hok.fresh hp)⟩
 ·rw[List.length_map,a2.length_eq,sizeLine_eq]
  have:=Hd.le
  omega
end
section
variable{X:Cx}
def Lr:V→List V→Hp→VK→Prop:=fun x xs H Q=>∃n:Nat,x= .int (n:Int)∧xs=[]∧Q (.int (Builtin.Int.intBits (n:Int):Nat)) H
theorem agF:mR X "int.bit_length" Lr:=by
 intro pins s σ H x xs v us Q I rx rv h
 obtain⟨n,rfl,rfl,q⟩:=h
 obtain⟨t,rfl⟩:=rx
 have hus:=rv.zero
 subst hus
 exact PyProof.Rows.call_int_bit_length ⟨.int _,H,I.tok _,⟨_,rfl⟩,q⟩
def Ls:V→List V→Hp→VK→Prop:=fun x vs H Q=>∃(l:Addr) (ns:List Int) (k:Int),x= .ref l∧vs=[.int k]∧H l=some (.lst (ns.map V.int))∧k∈ns∧Q .non (upd H l (.lst ((ns.erase k).map V.int)))
theorem V4(k:Int):∀ns:List Int,k∈ns→∃j,ns[j]? =some k∧(∀m y,m<j→ns[m]? =some y→y≠k)∧ns.erase k=ns.eraseIdx j
 | [],h=>by simp at h
 |a::r,h=>by
  by_cases e:a=k
  ·subst e
   exact⟨0,rfl,fun m _ hm=>absurd hm (Nat.not_lt_zero m),by simp⟩
  ·have hr:k∈r:=by
    rcases List.mem_cons.mp h with z|z
    ·exact absurd z.symm e
    ·exact z
   obtain⟨j,h1,h2,h3⟩:=V4 k r hr
   refine⟨j+1,by simpa using h1,fun m y hm hy=>?_,?_⟩
   ·cases m with
    |zero=>simp at hy;rw[←hy];exact e
    |succ m=>exact h2 m y (by omega) (by simpa using hy)
   ·rw[List.erase_cons,if_neg (by simpa using e),h3]
    rfl
theorem Xd{α β:Type}(f:α→β):∀(l:List α) (j:Nat),(l.eraseIdx j).map f=(l.map f).eraseIdx j
 | [],_=>by simp
 |_::_,0=>rfl
 |a::r,j+1=>by
  show f a::(r.eraseIdx j).map f=f a::(r.map f).eraseIdx j
  rw[Xd f r j]
theorem agG:vH X "list.remove" Ls:=by
 intro pins s σ H x vs v us Q I rx rv h
 obtain⟨l,ns,k,rfl,rfl,hH,hk,q⟩:=h
 cases rx
 obtain⟨u,rfl,ru⟩:=rv.one
 obtain⟨tk,rfl⟩:=ru
 obtain⟨z,its,n,r,hl,e⟩:=I.pK hH
 obtain⟨j,h1,h2,h3⟩:=V4 k ns hk
 have hz:=z
 rw[List.length_map] at hz hl
 have hjl:=(List.getElem?_eq_some_iff.mp h1).1
 have sh:∀(m:Nat) (y:Int),ns[m]? =some y→∃t,its[m]? =some (.int y t):=fun m y hy=>by
  obtain⟨w,hw,t,rfl⟩:=r.get (show(ns.map V.int)[m]? =some (.int y) by rw[List.getElem?_map,hy];rfl)
  exact⟨t,hw⟩
 obtain⟨tj,hj⟩:=sh j k h1
 have hji:j<its.toArray.size:=by rw[List.size_toArray];omega
 refine call_meets F.slot_list_remove ⟨_,e,rfl⟩ F.entry_list_remove (F.args_list_remove_2 _ _)
  (MeetsSeq.list_remove l its.toArray n (.int k tk) (fun y=>match y with| .int a _=>a==k|_=>false) (fun y hy=>?_) j hji ?_ (fun m hm hmj=>?_) (by rw[List.size_toArray];omega)) ⟨e,?_⟩
 ·obtain⟨m,hm,ey⟩:=List.mem_iff_getElem.mp (show y∈its by simpa using hy)
  obtain⟨a,ha⟩:∃a,ns[m]? =some a:=⟨ns[m]'(by omega),List.getElem?_eq_getElem (by omega)⟩
  obtain⟨t,ht⟩:=sh m a ha
  rw[List.getElem?_eq_getElem hm,ey] at ht
  cases ht
  exact MeetsSeq.EqGives.int a k t tk
 ·have:its.toArray[j]= .int k tj:=by
   have:=(List.getElem?_eq_some_iff.mp hj).2
   simpa using this
  rw[this]
  simp
 ·have hm':m<ns.length:=by rw[List.size_toArray] at hm;omega
  obtain⟨t,ht⟩:=sh m ns[m] (List.getElem?_eq_getElem hm')
  have:its.toArray[m]= .int ns[m] t:=by
   have:=(List.getElem?_eq_some_iff.mp ht).2
   simpa using this
  rw[this]
  simpa using h2 m ns[m] hmj (List.getElem?_eq_getElem hm')
 ·refine⟨.non,_,I.Bu (its':=its.eraseIdx j) hH e ?_ (by rw[h3,Xd];exact r.eraseIdx j) ?_,rfl,q⟩
  ·show its.toArray.eraseIdxIfInBounds j=(its.eraseIdx j).toArray
   rw[List.eraseIdxIfInBounds_toArray]
  ·rw[List.length_map]
   have:=List.length_erase_le (a:=k) (l:=ns)
   omega
def Lw:V→List V→Hp→VK→Prop:=fun x vs H Q=>∃(d o:Addr) (kvs more:List (Key×V)),x= .ref d∧vs=[.ref o]∧H d=some (.dK kvs)∧H o=some (.dK more)∧d≠o∧kvs.length+more.length≤sizeLine∧Q .non (upd H d (.dK (kE kvs more)))
theorem agH:vH X "dict.update" Lw:=by
 intro pins s σ H x vs v us Q I rx rv h
 obtain⟨d,o,kvs,more,rfl,rfl,hd,ho,hne,hz,q⟩:=h
 cases rx
 obtain⟨u,rfl,ru⟩:=rv.one
 cases ru
 obtain⟨z1,s1,ws,r1,d1⟩:=uX I.hok hd
 obtain⟨z2,s2,xs,r2,d2⟩:=uX I.hok ho
 refine call_meetsIn PySem.F.slot_dict_update d1.typeIs PySem.F.entry_dict_update (PySem.F.args_dict_update_2 _ _) (meets_dict_update (fV X.prog X.w) d o hne s2) ⟨ws,xs,d1,d2,by rw[←r1.length,←r2.length];exact hz,fun h' e1 e2 sb=>?_⟩
 have he:∃q,h'.get? d=some q:=let ⟨q,_,_,hq,_⟩:=e1;⟨q,hq⟩
 exact⟨.non,_,zR (t':=s.toks) I (by rw[hd];exact True.intro) sb he (Ms (Nat.le_trans (xR more kvs) hz) s1 (KV.merge r2 r1) e1),rfl,q⟩
def JN:List V→Hp→VK→Prop:=fun vs H Q=>∃(d:Addr) (kvs:List (Key×V)),vs=[.ref d]∧H d=some (.dK kvs)∧∀l,H l=none→Q (.ref l) (upd H l (.lst (kvs.map fun kv=>kV kv.1)))
theorem aiN{k:Key}{v:Value}(h:pF k v=true):RelV (kV k) v:=by
 rcases j5 h with⟨i,t,rfl,rfl⟩|⟨x,t,rfl,rfl⟩<;>exact⟨t,rfl⟩
theorem aeF(hc:X.calm=true):kO X (.type "list") JN:=by
 intro pins s σ H vs us Q I r h
 obtain⟨d,kvs,rfl,hd,q⟩:=h
 rw[Vals.vf r]
 obtain⟨z,hs,ws,rel,dd⟩:=uX I.hok hd
 obtain⟨ep,hat⟩:=dd.dictAt
 have hl:kvs.length=ws.length:=rel.length
 refine PySem.W.kdl_call (PySem.W.kdl_dict (knd:=fV X.prog X.w) (kvs:=ws) (ep:=ep) hs) (I.ok.hd hc) hat (by omega) fun h' tk acc c hk hS hacc=>?_
 refine⟨.ref _,_,I.laid (t':=tk) (o:=.lst (kvs.map fun kv=>kV kv.1)) hk (Nat.le_refl _) ⟨by rw[List.length_map];exact z,acc.toList,c,?_,by simpa using hS⟩,rfl,q _ (I.hok.fresh (Nat.le_refl _))⟩
 obtain⟨a1,a2⟩:=hacc
 refine Ld (by simp[a1,hl]) fun i x u e1 e2=>?_
 obtain⟨k,y,hy,hku⟩:=a2 i u (by simpa using e2)
 rw[List.getElem?_map] at e1
 obtain⟨kv,hkv,rfl⟩:=Option.map_eq_some_iff.mp e1
 obtain⟨q2,hq2,e3,_⟩:=L2.gH rel hkv
 rw[hy] at hq2
 cases hq2
 rw[e3]
 exact aiN hku
end
structure Ad where
 row:Addr
 contact:Addr
 scheme:Addr
 scan:Addr
 program:Addr
 reader:Addr
 oR:Addr
 m_:Addr
 wI:Addr
 yH:Addr
 xH:Addr
 wR:Addr
 xJ:Addr
def sgn(c:UInt8):Nat:=if(Rung.isSmall c||Rung.isDigit c||c==32||c==10)=true then c.toNat else 63
def S(b:Rung.Bytes):Str:=⟨(b.map sgn).toArray⟩
abbrev vS(b:Rung.Bytes):V:=.str (S b)
def nameOf:Rung.Line→Rung.Name
 | .input x=>x
 | .relay r=>r.name
 | .lamp l=>l.name
 | .contact _ x _ _=>x
def gM:Rung.Line→List Nat
 | .input _=>[]
 | .relay r=>[r.node]
 | .lamp l=>[l.node]
 | .contact _ _ a b=>[a,b]
def zE:Rung.Line→Nat
 | .contact c _ _ _=>if c=true then 0 else 1
 |_=>0
def nV(l:List Nat):List V:=l.map fun(n:Nat)=>V.int (n:Int)
def pH(rank:Nat)(x:Rung.Name)(n:Addr)(op:Nat):List (Str×V):=[("rank",.int rank),("name",vS x),("nodes",.ref n),("opener",.int op)]
theorem jJ(r:Nat)(x:Rung.Name)(n:Addr)(op:Nat):(pH r x n op).lookup ("rank":Str)=some (V.int r):=rfl
theorem nD(r:Nat)(x:Rung.Name)(n:Addr)(op:Nat):(pH r x n op).lookup ("name":Str)=some (vS x):=rfl
theorem Xe(r:Nat)(x:Rung.Name)(n:Addr)(op:Nat):(pH r x n op).lookup ("nodes":Str)=some (V.ref n):=rfl
theorem afA(r:Nat)(x:Rung.Name)(n:Addr)(op:Nat):(pH r x n op).lookup ("opener":Str)=some (V.int op):=rfl
def iY(C:Addr)(H:Hp)(v:V)(rank:Nat)(x:Rung.Name)(ns:List Nat)(op:Nat):Prop:=
 ∃a dx n,v= .ref a∧H a=some (.ins C dx (pH rank x n op))∧H n=some (.lst (nV ns))
def pN(C:Addr)(H:Hp)(v:V)(l:Rung.Line):Prop:=iY C H v l.sort (nameOf l) (gM l) (zE l)
def dO(C:Addr)(H:Hp)(v:V):Option Rung.Line→Prop
 |none=>v= .non
 |some l=>pN C H v l
def Ba(C:Addr)(names:List Str):List V→Hp→VK→Prop:=fun vs H Q=>vs.length=names.length∧∀x dx,H x=none→H dx=none→dx≠x→Q (.ref x) (upd (upd H dx (.own x)) x (.ins C dx (names.zip vs)))
def Ak(A:Ad):=Ba A.row ["rank","name","nodes","opener"]
def jX:Nat:=20000
def spl(a:Addr)(H:Hp)(ps:List Rung.Bytes):Prop:=H a=some (.lst (ps.map vS))∧ps.length≤20001∧∀p∈ps,p.length≤jX
def Jj:Sp:=fun vs H Q _=>∃c:UInt8,vs=[.int (c.toNat:Nat)]∧Q (.str ⟨#[sgn c]⟩) H
def tX:Sp:=fun vs H Q _=>∃x:Rung.Bytes,vs=[vS x]∧x.length≤jX∧cQ H Q fun v _=>v= .bl (Rung.isName x)
def yg:Sp:=fun vs H Q _=>∃(x:Rung.Bytes) (lo hi:Nat),vs=[vS x,.int lo,.int hi]∧x.length≤jX∧hi<100000∧Q (.bl (Rung.number lo hi x).isSome) H
def tY:Sp:=fun vs H Q _=>∃x:Rung.Bytes,vs=[vS x]∧x.length≤jX∧Q (.bl (Rung.number 0 63 x).isSome) H
def Gy:Sp:=fun vs H Q _=>∃(a:Addr) (zs:List Rung.Bytes),vs=[.ref a]∧spl a H zs∧cQ H Q fun v _=>v= .bl (Rung.delays zs).isSome
def jY:List Rung.Bytes→Option Rung.Line
 | [_,x]=>if Rung.isName x=true then some (.input x) else none
 |_=>none
def d7:List Rung.Bytes→Option (Rung.Name×Nat)
 | [_,x,a,n]=>if Rung.isName x=true∧a=Rung.ascii "at" then(Rung.number 0 63 n).map fun k=>(x,k) else none
 |_=>none
def jN(ps:List Rung.Bytes):Option Rung.Line:=match Rung.delays (ps.drop 4) with
 |some d=>(d7 (ps.take 4)).map fun u=>.relay ⟨u.1,u.2,d.1,d.2⟩
 |none=>none
def dZ(op:Nat):List Rung.Bytes→Option Rung.Line
 | [_,x,n,m]=>if Rung.isName x=true then(match Rung.number 0 63 n,Rung.number 0 63 m with
   |some a,some b=>if a<b then some (.contact (op==0) x a b) else none
   |_,_=>none) else none
 |_=>none
def Gz(A:Ad):Sp:=fun vs H Q _=>∃(a:Addr) (ps:List Rung.Bytes),vs=[.ref a]∧spl a H ps∧cQ H Q fun v H'=>dO A.row H' v (jY ps)
def yh(A:Ad):Sp:=fun vs H Q _=>∃(a:Addr) (ps:List Rung.Bytes) (r:Nat),vs=[.ref a,.int r]∧spl a H ps∧cQ H Q fun v H'=>match d7 ps with
 |some u=>iY A.row H' v r u.1 [u.2] 0
 |none=>v= .non
def GC(A:Ad):Sp:=fun vs H Q _=>∃(a:Addr) (ps:List Rung.Bytes),vs=[.ref a]∧spl a H ps∧cQ H Q fun v H'=>dO A.row H' v (jN ps)
def wU(A:Ad):Sp:=fun vs H Q _=>∃(a:Addr) (ps:List Rung.Bytes) (op:Nat),vs=[.ref a,.int op]∧(op=0∨op=1)∧spl a H ps∧cQ H Q fun v H'=>dO A.row H' v (dZ op ps)
def Hj(A:Ad):Sp:=fun vs H Q _=>∃b:Rung.Bytes,vs=[vS b]∧b.length≤jX∧cQ H Q fun v H'=>dO A.row H' v (Rung.lineIn b)
def rowsOf(t:Rung.Bytes):List (Option Rung.Line):=(Rung.linesOf t).zipIdx.map fun(u:Rung.Bytes×Nat)=>if Rung.ended t=false∧u.2+1=(Rung.linesOf t).length then none else Rung.lineIn u.1
def nU(C:Addr)(H:Hp)(a:Addr)(os:List (Option Rung.Line)):Prop:=∃vs,H a=some (.lst vs)∧Paired (dO C H) vs os∧os.length≤20001
def kJ(t:Rung.Bytes):List V:=t.map fun(c:UInt8)=>V.int (c.toNat:Nat)
def Hl(K:PySem.W.Frag)(A:Ad):Sp:=fun vs H Q _=>∃(a:Addr) (t:Rung.Bytes),vs=[.ref a]∧au K H a (kJ t)∧t.length≤jX∧cQ H Q fun v H'=>∃p,v= .ref p∧nU A.row H' p (rowsOf t)
def Ug(K:PySem.W.Frag)(A:Ad):TS:=(aL (tC (V.str "?")))
def Uh(K:PySem.W.Frag)(A:Ad):TS:=(aB (bB (aZ (aG dh (aj 0) (tC (V.int 10)))) (aL (tC (V.str "\n"))) bA) (Ug K A))
def Ho(K:PySem.W.Frag)(A:Ad):TS:=(aB (bB (aZ (aG dh (aj 0) (tC (V.int 32)))) (aL (tC (V.str " "))) bA) (Uh K A))
def Hq(K:PySem.W.Frag)(A:Ad):TS:=(aB (bB (aZ (lY (bx fun i j=>.bl (decide (i≤j))) (bx fun i j=>.bl (decide (i≤j))) (tC (V.int 48)) (aj 0) (tC (V.int 57)))) (aL (aG sE (tC (V.str "0123456789")) (aG (bx fun i j=>.int (i - j)) (aj 0) (tC (V.int 48))))) bA) (Ho K A))
def yN(K:PySem.W.Frag)(A:Ad):TS:=(aB (bB (aZ (lY (bx fun i j=>.bl (decide (i≤j))) (bx fun i j=>.bl (decide (i≤j))) (tC (V.int 97)) (aj 0) (tC (V.int 122)))) (aL (aG sE (tC (V.str "abcdefghijklmnopqrstuvwxyz")) (aG (bx fun i j=>.int (i - j)) (aj 0) (tC (V.int 97))))) bA) (Hq K A))
def Ui(K:PySem.W.Frag)(A:Ad):TS:=(aL (bU (sH K) (ak (dw (aa2 (aj 0)) (aJ 1) fO (Nz (aG (fun x y H Q=>∃(c:Nat) (z:Str),x= .str ⟨#[c]⟩∧y= .str z∧Q (.bl (decide (c∈z.cps.toList))) H) (aj 1) (tC (V.str "abcdefghijklmnopqrstuvwxyz"))) (aG (fun x y H Q=>∃(c:Nat) (z:Str),x= .str ⟨#[c]⟩∧y= .str z∧Q (.bl (decide (c∈z.cps.toList))) H) (aj 1) (tC (V.str "0123456789")))) [1]) aq)))
def yO(K:PySem.W.Frag)(A:Ad):TS:=(aB (bB (iZ (gA (aZ (lY (bx fun i j=>.bl (decide (i≤j))) (bx fun i j=>.bl (decide (i≤j))) (tC (V.int 1)) (bU (fun xs H Q=>∃z,xs=[.str z]∧z.length≤sizeLine∧Q (.int z.length) H) (ak (aj 0) aq)) (tC (V.int 12))))) (aZ (aG (fun x y H Q=>∃(c:Nat) (z:Str),x= .str ⟨#[c]⟩∧y= .str z∧Q (.bl (!decide (c∈z.cps.toList))) H) (aG sE (aj 0) (tC (V.int 0))) (tC (V.str "abcdefghijklmnopqrstuvwxyz"))))) (aL (tC (V.bl false))) bA) (Ui K A))
def R9(K:PySem.W.Frag)(A:Ad):TS:=(aL (lY (bx fun i j=>.bl (decide (i≤j))) (bx fun i j=>.bl (decide (i≤j))) (aj 1) (bU (fun xs H Q=>∃a n,xs=[.str a]∧PySem.intText? a=some n∧a.length≤640∧Q (.int n) H) (ak (aj 0) aq)) (aj 2)))
def R_(K:PySem.W.Frag)(A:Ad):TS:=(aB (bB (Bm (aZ (aG (bx fun i j=>.bl (decide (j<i))) (bU (fun xs H Q=>∃z,xs=[.str z]∧z.length≤sizeLine∧Q (.int z.length) H) (ak (aj 0) aq)) (tC (V.int 1)))) (aZ (aG dh (aG sE (aj 0) (tC (V.int 0))) (tC (V.str "0"))))) (aL (tC (V.bl false))) bA) (R9 K A))
def yj(K:PySem.W.Frag)(A:Ad):TS:=(aB (bB (iZ (gA (tB (Oj (fun x xs H Q=>∃a,x= .str a∧xs=[]∧True∧Q (.bl (Txt.isdigit a)) H) (aj 0)))) (aZ (aG (bx fun i j=>.bl (decide (j<i))) (bU (fun xs H Q=>∃z,xs=[.str z]∧z.length≤sizeLine∧Q (.int z.length) H) (ak (aj 0) aq)) (tC (V.int 5))))) (aL (tC (V.bl false))) bA) (R_ K A))
def V5(K:PySem.W.Frag)(A:Ad):TS:=(aL (aU yg (ak (aj 0) (ak (tC (V.int 0)) (ak (tC (V.int 63)) aq)))))
def Ri(K:PySem.W.Frag)(A:Ad):TS:=(aL (bU (sH K) (ak (dw (cU K (aj 2)) (aJ 3) fO (aU yg (ak (aj 3) (ak (tC (V.int 1)) (ak (tC (V.int 65535)) aq)))) [3]) aq)))
def Fl(K:PySem.W.Frag)(A:Ad):TS:=(aB (bB (iZ (aZ (aG (Zn K) (aj 1) (Bs (ak (bQ aq) (ak (bQ (ak (tC (V.str "up")) aq)) (ak (bQ (ak (tC (V.str "down")) aq)) (ak (bQ (ak (tC (V.str "up")) (ak (tC (V.str "down")) aq))) aq))))))) (aZ (aG gU (bU (fun xs H Q=>∃p ys,xs=[.ref p]∧(au K H p ys∨bK K H p ys)∧Q (.int ys.length) H) (ak (aj 2) aq)) (bU (fun xs H Q=>∃p ys,xs=[.ref p]∧(au K H p ys∨bK K H p ys)∧Q (.int ys.length) H) (ak (aj 1) aq))))) (aL (tC (V.bl false))) bA) (Ri K A))
def Rj(K:PySem.W.Frag)(A:Ad):TS:=(aB (aY (Bx K (aj 0) (iU (tC (V.int 1))) j8) (aJ 2)) (Fl K A))
def GD(K:PySem.W.Frag)(A:Ad):TS:=(aB (aY (Bx K (aj 0) (iU (tC (V.int 0))) j8) (aJ 1)) (Rj K A))
def Rk(K:PySem.W.Frag)(A:Ad):TS:=(aL (jW (Ak A) (ak (tC (V.int 0)) (ak (aG (cB K) (aj 0) (tC (V.int 1))) (ak (bQ aq) (ak (tC (V.int 0)) aq))))))
def xV(K:PySem.W.Frag)(A:Ad):TS:=(aB (bB (iZ (aZ (aG gU (bU (fun xs H Q=>∃p ys,xs=[.ref p]∧(au K H p ys∨bK K H p ys)∧Q (.int ys.length) H) (ak (aj 0) aq)) (tC (V.int 2)))) (gA (tB (aU tX (ak (aG (cB K) (aj 0) (tC (V.int 1))) aq))))) (aL (tC .non)) bA) (Rk K A))
def Sg(K:PySem.W.Frag)(A:Ad):TS:=(aL (jW (Ak A) (ak (aj 1) (ak (aG (cB K) (aj 0) (tC (V.int 1))) (ak (bQ (ak (bU (fun xs H Q=>∃a n,xs=[.str a]∧PySem.intText? a=some n∧a.length≤640∧Q (.int n) H) (ak (aG (cB K) (aj 0) (tC (V.int 3))) aq)) aq)) (ak (tC (V.int 0)) aq))))))
def yp(K:PySem.W.Frag)(A:Ad):TS:=(aB (bB (iZ (aZ (aG gU (bU (fun xs H Q=>∃p ys,xs=[.ref p]∧(au K H p ys∨bK K H p ys)∧Q (.int ys.length) H) (ak (aj 0) aq)) (tC (V.int 4)))) (iZ (gA (tB (aU tX (ak (aG (cB K) (aj 0) (tC (V.int 1))) aq)))) (iZ (aZ (aG gU (aG (cB K) (aj 0) (tC (V.int 2))) (tC (V.str "at")))) (gA (tB (aU tY (ak (aG (cB K) (aj 0) (tC (V.int 3))) aq))))))) (aL (tC .non)) bA) (Sg K A))
def Rm(K:PySem.W.Frag)(A:Ad):TS:=(aL (aU (yh A) (ak (mQ (mH K) (aj 0) j8 (iU (tC (V.int 4)))) (ak (tC (V.int 1)) aq))))
def xW(K:PySem.W.Frag)(A:Ad):TS:=(aB (bB (gA (tB (aU Gy (ak (mQ (mH K) (aj 0) (iU (tC (V.int 4))) j8) aq)))) (aL (tC .non)) bA) (Rm K A))
def Qy(K:PySem.W.Frag)(A:Ad):TS:=(aL (jW (Ak A) (ak (tC (V.int 3)) (ak (aG (cB K) (aj 0) (tC (V.int 1))) (ak (aj 2) (ak (aj 1) aq))))))
def Qz(K:PySem.W.Frag)(A:Ad):TS:=(aB (bB (aZ (aG (bx fun i j=>.bl (decide (j≤i))) (aG (cB K) (aj 2) (tC (V.int 0))) (aG (cB K) (aj 2) (tC (V.int 1))))) (aL (tC .non)) bA) (Qy K A))
def QB(K:PySem.W.Frag)(A:Ad):TS:=(aB (aY (bQ (ak (bU (fun xs H Q=>∃a n,xs=[.str a]∧PySem.intText? a=some n∧a.length≤640∧Q (.int n) H) (ak (aG (cB K) (aj 0) (tC (V.int 2))) aq)) (ak (bU (fun xs H Q=>∃a n,xs=[.str a]∧PySem.intText? a=some n∧a.length≤640∧Q (.int n) H) (ak (aG (cB K) (aj 0) (tC (V.int 3))) aq)) aq))) (aJ 2)) (Qz K A))
def wV(K:PySem.W.Frag)(A:Ad):TS:=(aB (bB (iZ (aZ (aG gU (bU (fun xs H Q=>∃p ys,xs=[.ref p]∧(au K H p ys∨bK K H p ys)∧Q (.int ys.length) H) (ak (aj 0) aq)) (tC (V.int 4)))) (iZ (gA (tB (aU tX (ak (aG (cB K) (aj 0) (tC (V.int 1))) aq)))) (iZ (gA (tB (aU tY (ak (aG (cB K) (aj 0) (tC (V.int 2))) aq)))) (gA (tB (aU tY (ak (aG (cB K) (aj 0) (tC (V.int 3))) aq))))))) (aL (tC .non)) bA) (QB K A))
def acY(K:PySem.W.Frag)(A:Ad):TS:=(aL (tC .non))
def Sh(K:PySem.W.Frag)(A:Ad):TS:=(aB (bB (aZ (aG dh (aG (cB K) (aj 1) (tC (V.int 0))) (tC (V.str "close")))) (aL (aU (wU A) (ak (aj 1) (ak (tC (V.int 0)) aq)))) bA) (acY K A))
def Sq(K:PySem.W.Frag)(A:Ad):TS:=(aB (bB (aZ (aG dh (aG (cB K) (aj 1) (tC (V.int 0))) (tC (V.str "open")))) (aL (aU (wU A) (ak (aj 1) (ak (tC (V.int 1)) aq)))) bA) (Sh K A))
def Ss(K:PySem.W.Frag)(A:Ad):TS:=(aB (bB (aZ (aG dh (aG (cB K) (aj 1) (tC (V.int 0))) (tC (V.str "lamp")))) (aL (aU (yh A) (ak (aj 1) (ak (tC (V.int 2)) aq)))) bA) (Sq K A))
def Sv(K:PySem.W.Frag)(A:Ad):TS:=(aB (bB (aZ (aG dh (aG (cB K) (aj 1) (tC (V.int 0))) (tC (V.str "relay")))) (aL (aU (GC A) (ak (aj 1) aq))) bA) (Ss K A))
def Sw(K:PySem.W.Frag)(A:Ad):TS:=(aB (bB (aZ (aG dh (aG (cB K) (aj 1) (tC (V.int 0))) (tC (V.str "in")))) (aL (aU (Gz A) (ak (aj 1) aq))) bA) (Sv K A))
def yq(K:PySem.W.Frag)(A:Ad):TS:=(aB (aY (pZ (fun x xs H Q=>∃a b,x= .str a∧xs=[.str b]∧(b.length==0)=false∧a.length+2≤sizeLine∧qN (Txt.split a b) H Q) (aj 0) (tC (V.str " "))) (aJ 1)) (Sw K A))
def Sx(K:PySem.W.Frag)(A:Ad):TS:=(aL (aj 3))
def FZ(K:PySem.W.Frag)(A:Ad):TS:=(aB (bB (aZ (aG gU (aG (cB K) (aj 1) (ou (rU fun i=>.int (-i)) (tC (V.int 1)))) (tC (V.str "")))) (iu (i_ K "list" lM (aj 3) (ak (tC .non) aq))) bA) (Sx K A))
def Sy(K:PySem.W.Frag)(A:Ad):TS:=(aB (aY (dw (cU K (mQ (mH K) (aj 1) j8 (iU (ou (rU fun i=>.int (-i)) (tC (V.int 1)))))) (aJ 4) fO (aU (Hj A) (ak (aj 4) aq)) [4]) (aJ 3)) (FZ K A))
def yr(K:PySem.W.Frag)(A:Ad):TS:=(aB (aY (pZ (fun x xs H Q=>∃a b,x= .str a∧xs=[.str b]∧(b.length==0)=false∧a.length+2≤sizeLine∧qN (Txt.split a b) H Q) (pZ (rJoin K) (tC (V.str "")) (dw (cU K (aj 0)) (aJ 2) fO (aU Jj (ak (aj 2) aq)) [2])) (tC (V.str "\n"))) (aJ 1)) (Sy K A))
theorem aiO{A:Around}{k:Nat}(hr:cO k A):A.units+65<cLine:=by
 have:=hr.un
 omega
structure Tx(K:PySem.W.Frag)(mg:Str→Option Value)(A:Ad):Prop where
 cF:mg "len"=none
 rP:mg "all"=none
 rQ:mg "int"=none
 rE:mg "list"=none
 lU:mg "range"=none
 Bb:mg "sum"=none
 uD:mg "sorted"=none
 jG:mg "enumerate"=none
 Bc:mg "set"=none
 uq:∃u,mg "LETTERS"=some u∧RelV (.str "abcdefghijklmnopqrstuvwxyz") u
 zF:∃u,mg "DIGITS"=some u∧RelV (.str "0123456789") u
 JQ:∃u,mg "STRANGE"=some u∧RelV (.str "?") u
 o9:∃u,mg "INPUT"=some u∧RelV (.int 0) u
 q_:∃u,mg "RELAY"=some u∧RelV (.int 1) u
 MF:∃u,mg "LAMP"=some u∧RelV (.int 2) u
 qK:∃u,mg "CONTACT"=some u∧RelV (.int 3) u
 Gd:∃u,mg "LONGEST_NAME"=some u∧RelV (.int 12) u
 wW:∃u,mg "GREATEST_NODE"=some u∧RelV (.int 63) u
 Es:∃u,mg "GREATEST_TICKS"=some u∧RelV (.int 65535) u
 GF:∃u,mg "MOST_DIGITS"=some u∧RelV (.int 5) u
 Al:∃u,mg "RAIL"=some u∧RelV (.int 0) u
 oN:∃u,mg "FIRST_RELAY_VARIABLE"=some u∧RelV (.int 16) u
 Am:∃u,mg "SURE"=some u∧RelV (.int 0) u
 MJ:∃u,mg "RING"=some u∧RelV (.int 1) u
 Fo:∃u,mg "SEVERAL_RESTS"=some u∧RelV (.int 2) u
 Ge:∃u,mg "LONGEST_TEXT"=some u∧RelV (.int 20000) u
 Et:∃u,mg "GREATEST_STATE"=some u∧RelV (.int 4294967295) u
 v9:∃u,mg "MOST_RELAYS_TO_SCAN"=some u∧RelV (.int 8) u
 DY:∃u,mg "MOST_USED_TO_HANG"=some u∧RelV (.int 6) u
 Dz:∃u,mg "MOST_RELAYS_TO_MOVE"=some u∧RelV (.int 5) u
 Dl:∃u,mg "MOST_VARIABLES_TO_MOVE"=some u∧RelV (.int 8) u
 Dm:∃u,mg "MOST_RELAYS_TO_ORDER"=some u∧RelV (.int 5) u
 qt:∃u,mg "WRONG_ARGUMENT"=some u∧RelV (.int (-1)) u
 m8:∃u,mg "TOO_GREAT"=some u∧RelV (.int (-9)) u
 tQ:∃u,mg "NO_ANSWER"=some u∧RelV (.int (-5)) u
 oR:∃u,mg "MOST_OF_RANK"=some u∧RelV (.ref A.oR) u
 Gf:∀H,bK K H A.oR [.int 16,.int 12,.int 16,.int 256]
 m_:∃u,mg "FINDERS"=some u∧RelV (.ref A.m_) u
 zf:∀H,bK K H A.m_ [.ref A.wI,.ref A.yH,.ref A.xH,.ref A.wR,.ref A.xJ]
 Eu:mg "shapeless_line"=some (.ref A.wI)
 Ih:mg "late_line"=some (.ref A.yH)
 Gg:mg "surplus_line"=some (.ref A.xH)
 Fp:mg "repeated_line"=some (.ref A.wR)
 Gh:mg "unknown_line"=some (.ref A.xJ)
 JR:Df K mg "sign_of" "sign_of" (top 13)
 JT:Df K mg "is_name" "is_name" (top 14)
 Ii:Df K mg "is_number" "is_number" (top 15)
 JV:Df K mg "is_node" "is_node" (top 16)
 Hr:Df K mg "are_delays" "are_delays" (top 17)
 Hs:Df K mg "read_input" "read_input" (top 18)
 Ij:Df K mg "read_coil" "read_coil" (top 19)
 Ht:Df K mg "read_relay" "read_relay" (top 20)
 Gi:Df K mg "read_contact" "read_contact" (top 21)
 Ik:Df K mg "read_line" "read_line" (top 22)
 Il:Df K mg "read_text" "read_text" (top 23)
 Ew:Df K mg "shapeless_line" "shapeless_line" (top 26)
 Im:Df K mg "late_line" "late_line" (top 27)
 Gj:Df K mg "surplus_line" "surplus_line" (top 28)
 Fq:Df K mg "repeated_line" "repeated_line" (top 29)
 Gk:Df K mg "unknown_line" "unknown_line" (top 30)
 GJ:Df K mg "first_fault" "first_fault" (top 32)
 GK:Df K mg "lowest_bits" "lowest_bits" (top 34)
 Jk:Df K mg "parts_of" "parts_of" (top 35)
 Io:Df K mg "relay_bit" "relay_bit" (top 41)
 Gm:Df K mg "rows_of_rank" "rows_of_rank" (top 42)
 D_:Df K mg "variables_by_name" "variables_by_name" (top 43)
 Ip:Df K mg "scheme_of" "scheme_of" (top 44)
 Ey:Df K mg "used_variables" "used_variables" (top 45)
 Gn:Df K mg "lets_through" "lets_through" (top 46)
 DG:Df K mg "neighbours_of_nodes" "neighbours_of_nodes" (top 47)
 Hu:Df K mg "live_nodes" "live_nodes" (top 48)
 Ez:Df K mg "drawing_relays" "drawing_relays" (top 49)
 EY:Df K mg "states_of_used" "states_of_used" (top 51)
 GP:Df K mg "used_relays" "used_relays" (top 52)
 Jl:Df K mg "hangs_on" "hangs_on" (top 53)
 Hv:Df K mg "hung_on_by" "hung_on_by" (top 54)
 Jm:Df K mg "are_told" "are_told" (top 55)
 Hw:Df K mg "order_told" "order_told" (top 56)
 DK:Df K mg "states_behind_moves" "states_behind_moves" (top 61)
 Ir:Df K mg "are_known" "are_known" (top 62)
 Ft:Df K mg "rests_through" "rests_through" (top 63)
 E_:Df K mg "rests_by_state" "rests_by_state" (top 64)
 Gp:Df K mg "why_not_sure" "why_not_sure" (top 65)
 Gq:Df K mg "first_unsure" "first_unsure" (top 66)
 Ea:Df K mg "state_behind_rung" "state_behind_rung" (top 69)
 DN:Df K mg "states_behind_rungs" "states_behind_rungs" (top 70)
 Eb:Df K mg "state_behind_pass" "state_behind_pass" (top 71)
 JW:Df K mg "scan_of" "scan_of" (top 72)
 Hx:Df K mg "all_orders" "all_orders" (top 73)
 DP:Df K mg "scans_of_all_orders" "scans_of_all_orders" (top 74)
 MK:Df K mg "load" "load" (top 89)
 Iu:Df K mg "set_state" "set_state" (top 90)
 JX:Df K mg "arrange" "arrange" (top 91)
 MN:Df K mg "told" "told" (top 92)
 Iv:Df K mg "pass_once" "pass_once" (top 93)
 Lx:Df K mg "rungs" "rungs" (top 94)
 Ly:Df K mg "until" "until" (top 95)
 Hy:Df K mg "tell_round" "tell_round" (top 96)
 Fv:Df K mg "too_many_used" "too_many_used" (top 97)
 M4:Df K mg "hang" "hang" (top 98)
 Hz:Df K mg "tell_order" "tell_order" (top 99)
 M5:Df K mg "sure" "sure" (top 100)
 M6:Df K mg "some" "some" (top 101)
 GQ:Df K mg "answer_call" "answer_call" (top 102)
 JZ:Df K mg "answers" "answers" (top 103)
 eU:Cls K A.row
 gZ:dz K A.row "rank"
 jH:dz K A.row "name"
 tR:dz K A.row "nodes"
 yt:dz K A.row "opener"
 Nr:mg "Row"=some (.ref A.row)
 Nt:∃f fd,Mk K A.row f∧fu K "__init__" "Row.__init__" (inClass (top 12) 0) f fd
 m9:Cls K A.contact
 tE:dz K A.contact "variable"
 wJ:dz K A.contact "opener"
 wX:dz K A.contact "nodes"
 J0:mg "Contact"=some (.ref A.contact)
 J1:∃f fd,Mk K A.contact f∧fu K "__init__" "Contact.__init__" (inClass (top 39) 0) f fd
 cW:Cls K A.scheme
 wY:dz K A.scheme "inputs"
 iJ:dz K A.scheme "coils"
 tG:dz K A.scheme "contacts"
 tu:dz K A.scheme "relay_mask"
 qy:dz K A.scheme "mask"
 qu:dz K A.scheme "drawing"
 Kz:mg "Scheme"=some (.ref A.scheme)
 KC:∃f fd,Mk K A.scheme f∧fu K "__init__" "Scheme.__init__" (inClass (top 40) 0) f fd
 iR:Cls K A.scan
 m7:dz K A.scan "states"
 qC:dz K A.scan "back"
 M7:mg "Scan"=some (.ref A.scan)
 M8:∃f fd,Mk K A.scan f∧fu K "__init__" "Scan.__init__" (inClass (top 68) 0) f fd
 Ef:∃f fd,Meth K A.scan "comes_round" f∧fu K "comes_round" "Scan.comes_round" (inClass (top 68) 1) f fd
 bY:Cls K A.program
 dW:dz K A.program "scheme"
 gj:dz K A.program "state"
 j4:dz K A.program "order"
 J2:mg "Program"=some (.ref A.program)
 J3:∃f fd,Mk K A.program f∧fu K "__init__" "Program.__init__" (inClass (top 87) 0) f fd
 gk:Cls K A.reader
 qw:dz K A.reader "calls"
 lA:dz K A.reader "place"
 KD:mg "Reader"=some (.ref A.reader)
 KH:∃f fd,Mk K A.reader f∧fu K "__init__" "Reader.__init__" (inClass (top 88) 0) f fd
 Fw:∃f fd,Meth K A.reader "at_end" f∧fu K "at_end" "Reader.at_end" (inClass (top 88) 1) f fd
 DQ:∃f fd,Meth K A.reader "take_number" f∧fu K "take_number" "Reader.take_number" (inClass (top 88) 2) f fd
 Eh:∃f fd,Meth K A.reader "take_list" f∧fu K "take_list" "Reader.take_list" (inClass (top 88) 3) f fd
theorem ajV(p:UInt8→Bool)(h:((List.range 256).all fun n=>p (UInt8.ofNat n))=true):∀c:UInt8,p c=true:=fun c=>by
 have h1:=List.all_eq_true.mp h c.toNat (List.mem_range.mpr (UInt8.toNat_lt c))
 have e:UInt8.ofNat c.toNat=c:=by simp
 rw[e] at h1
 exact h1
theorem g_(p:UInt8→Prop)[DecidablePred p](h:((List.range 256).all fun n=>decide (p (UInt8.ofNat n)))=true):∀c:UInt8,p c:=fun c=>of_decide_eq_true (ajV (fun c=>decide (p c)) h c)
theorem aiP:∀c:UInt8,Unicode.isDigit (sgn c)=Rung.isDigit c:=g_ _ (by decide+kernel)
theorem Zx:∀c:UInt8,decide (sgn c∈(Str.ofString "abcdefghijklmnopqrstuvwxyz").cps.toList)=Rung.isSmall c:=g_ _ (by decide+kernel)
theorem aiQ:∀c:UInt8,decide (sgn c∈(Str.ofString "0123456789").cps.toList)=Rung.isDigit c:=g_ _ (by decide+kernel)
theorem Jo:∀c:UInt8,Rung.isDigit c=true→sgn c=c.toNat∧48≤sgn c∧sgn c≤57:=g_ _ (by decide+kernel)
theorem ajW:∀c:UInt8,(sgn c=32↔c=32):=g_ _ (by decide+kernel)
theorem ajX:∀c:UInt8,(sgn c=10↔c=10):=g_ _ (by decide+kernel)
theorem ajY:∀c:UInt8,(sgn c=48↔c=48):=g_ _ (by decide+kernel)
theorem ajZ:∀c:UInt8,sgn c<128:=g_ _ (by decide+kernel)
theorem agI:∀c:UInt8,((97≤sgn c∧sgn c≤122)→sgn c=c.toNat):=g_ _ (by decide+kernel)
theorem jt(b:Rung.Bytes):(S b).length=b.length:=by simp[S,Str.length]
theorem jR(b:Rung.Bytes):(S b).cps.toList=b.map sgn:=by simp[S]
theorem BK(b:Rung.Bytes):TL.tl (S b)=b.map sgn:=jR b
theorem YB{n:Nat}(h:n≤jX):n≤sizeLine:=Nat.le_trans h (by decide)
theorem agJ(b:Rung.Bytes):Txt.isdigit (S b)=(!b.isEmpty&&b.all Rung.isDigit):=by
 unfold Txt.isdigit
 have e:(S b).cps.all Unicode.isDigit=b.all Rung.isDigit:=by
  rw[←Array.all_toList,jR,List.all_map]
  congr 1
  funext c
  exact aiP c
 rw[e,jt]
 cases b<;>simp
theorem Vg:∀(b:Rung.Bytes) (w:List UInt8),(∀c∈w,97≤c.toNat∧c.toNat≤122)→(b.map sgn=w.map UInt8.toNat↔b=w)
 | [],[],_=>by simp
 | [],_::_,_=>by simp
 |_::_,[],_=>by simp
 |c::b,d::w,h=>by
  have ih:=Vg b w fun x hx=>h x (List.mem_cons_of_mem _ hx)
  simp only[List.map_cons,List.cons.injEq,ih]
  constructor
  ·rintro⟨h1,h2⟩
   refine⟨?_,h2⟩
   have hd:=h d (List.mem_cons_self ..)
   have:=agI c ⟨by omega,by omega⟩
   exact UInt8.toNat_inj.mp (by omega)
  ·rintro⟨h1,h2⟩
   subst h1
   refine⟨?_,h2⟩
   have hd:=h c (List.mem_cons_self ..)
   have e:Rung.isSmall c=true:=by
    simp only[Rung.isSmall,Bool.and_eq_true,decide_eq_true_eq,UInt8.le_iff_toNat_le]
    exact hd
   simp[sgn,e]
theorem nW(b:Rung.Bytes)(s:String)(w:List UInt8)(hs:(Str.ofString s).cps.toList=w.map UInt8.toNat)(ha:Rung.ascii s=w)(hw:∀c∈w,97≤c.toNat∧c.toNat≤122):(S b=Str.ofString s↔b=Rung.ascii s):=by
 rw[ha,←Vg b w hw]
 constructor
 ·intro e
  rw[←jR,e,hs]
 ·intro e
  refine TL.Mv ?_
  rw[BK,e]
  exact hs.symm
theorem aa3(b:Rung.Bytes):(S b=Str.ofString "in"↔b=Rung.ascii "in"):=nW b "in" [105,110] (by decide+kernel) (by decide+kernel) (by decide+kernel)
theorem Zy(b:Rung.Bytes):(S b=Str.ofString "relay"↔b=Rung.ascii "relay"):=nW b "relay" [114,101,108,97,121] (by decide+kernel) (by decide+kernel) (by decide+kernel)
theorem aai(b:Rung.Bytes):(S b=Str.ofString "lamp"↔b=Rung.ascii "lamp"):=nW b "lamp" [108,97,109,112] (by decide+kernel) (by decide+kernel) (by decide+kernel)
theorem aaj(b:Rung.Bytes):(S b=Str.ofString "open"↔b=Rung.ascii "open"):=nW b "open" [111,112,101,110] (by decide+kernel) (by decide+kernel) (by decide+kernel)
theorem Zz(b:Rung.Bytes):(S b=Str.ofString "close"↔b=Rung.ascii "close"):=nW b "close" [99,108,111,115,101] (by decide+kernel) (by decide+kernel) (by decide+kernel)
theorem aa4(b:Rung.Bytes):(S b=Str.ofString "at"↔b=Rung.ascii "at"):=nW b "at" [97,116] (by decide+kernel) (by decide+kernel) (by decide+kernel)
theorem ak_(b:Rung.Bytes):(S b=Str.ofString "up"↔b=Rung.ascii "up"):=nW b "up" [117,112] (by decide+kernel) (by decide+kernel) (by decide+kernel)
theorem aj0(b:Rung.Bytes):(S b=Str.ofString "down"↔b=Rung.ascii "down"):=nW b "down" [100,111,119,110] (by decide+kernel) (by decide+kernel) (by decide+kernel)
theorem aaz(b:Rung.Bytes):(S b=Str.ofString ""↔b=[]):=by
 constructor
 ·intro e
  have:=congrArg Str.length e
  rw[jt] at this
  have h0:(Str.ofString "").length=0:=by decide+kernel
  rw[h0] at this
  exact List.length_eq_zero_iff.mp this
 ·rintro rfl
  decide+kernel
theorem aaA{b:Rung.Bytes}(h:b.all Rung.isDigit=true)(h1:b≠[])(h2:b.length≤jX)(h3:b.length≤4300):intText? (S b)=some ((Rung.numberOf b:Nat):Int):=by
 have hd:NumText.AllDigits (S b).cps.toList:=by
  rw[jR]
  intro c hc
  obtain⟨d,hd,rfl⟩:=List.mem_map.mp hc
  exact(Jo d (List.all_eq_true.mp h d hd)).2
 have e:=PySem.intText_digits (x:=S b) hd (by rw[jR];simpa using h1) (by rw[jt];exact h3)
 rw[e,jR]
 congr 2
 unfold NumText.digitsVal Rung.numberOf
 have gen:∀(l:List UInt8) (a:Nat),l.all Rung.isDigit=true→(l.map sgn).foldl (fun acc c=>acc*10+(c - 48)) a=l.foldl (fun(n:Nat) (c:UInt8)=>10*n+(c.toNat - 48)) a:=by
  intro l
  induction l with
  |nil=>intro a _;rfl
  |cons c r ih=>
   intro a hl
   rw[List.all_cons,Bool.and_eq_true] at hl
   rw[List.map_cons,List.foldl_cons,List.foldl_cons,ih _ hl.2,(Jo c hl.1).1,Nat.mul_comm]
 exact gen b 0 h
theorem Vh:∀(b:Rung.Bytes) (a:Nat),b.foldl (fun(n:Nat) (c:UInt8)=>10*n+(c.toNat - 48)) a≥a*10^b.length
 | [],a=>by simp
 |c::r,a=>by
  rw[List.foldl_cons,List.length_cons]
  refine Nat.le_trans ?_ (Vh r _)
  rw[Nat.pow_succ]
  have:a*(10^r.length*10)=(10*a)*10^r.length:=by
   rw[←Nat.mul_assoc,Nat.mul_comm (a*10^r.length) 10,Nat.mul_assoc]
  rw[this]
  exact Nat.mul_le_mul_right _ (by omega)
theorem Tq{b:Rung.Bytes}(h:b.all Rung.isDigit=true)(h0:b.head?≠some 48)(h5:5<b.length):100000≤Rung.numberOf b:=by
 cases b with
 |nil=>simp at h5
 |cons c r=>
  rw[List.all_cons,Bool.and_eq_true] at h
  have hc:c≠48:=fun e=>h0 (by rw[e];rfl)
  have h1:=Jo c h.1
  have hn:c.toNat≠48:=fun e=>hc (UInt8.toNat_inj.mp e)
  have h2:=Vh r (10*0+(c.toNat - 48))
  have h3:5≤r.length:=by simpa using Nat.le_of_lt_succ h5
  have h4:10^5≤10^r.length:=Nat.pow_le_pow_right (by decide) h3
  unfold Rung.numberOf
  rw[List.foldl_cons]
  have h6:1*10^5≤(10*0+(c.toNat - 48))*10^r.length:=Nat.mul_le_mul (by omega) h4
  omega
theorem Jp(s:Nat)(c:UInt8)(hs:∀d:UInt8,sgn d=s↔d=c):∀(b:Rung.Bytes) (acc:Rung.Bytes),TL.spl [s] 0 (acc.map sgn) (b.map sgn)=((acc++(Rung.split c b).headD [])::(Rung.split c b).tail).map (List.map sgn)
 | [],acc=>by simp[TL.spl,Rung.split]
 |x::r,acc=>by
  by_cases hx:x=c
  ·subst hx
   have e:sgn x=s:=(hs x).mpr rfl
   rw[List.map_cons,TL.Zf (by simp[TL.pre,e])]
   have ih:=Jp s x hs r []
   have hl:([s]:List Nat).length - 1=0:=rfl
   rw[hl]
   simp only[List.map_nil] at ih
   rw[ih]
   have ne:Rung.split x r≠[]:=by
    cases r with
    |nil=>simp[Rung.split]
    |cons y z=>unfold Rung.split;split<;>(try split)<;>simp
   have e2:Rung.split x (x::r)=[]::Rung.split x r:=by rw[Rung.split,if_pos rfl]
   rw[e2]
   cases hq:Rung.split x r with
   |nil=>exact absurd hq ne
   |cons u v=>simp
  ·have e:sgn x≠s:=fun z=>hx ((hs x).mp z)
   rw[List.map_cons,TL.X_ (TL.aev _ _ e)]
   have ih:=Jp s c hs r (acc++[x])
   rw[List.map_append] at ih
   simp only[List.map_cons,List.map_nil] at ih
   rw[ih]
   have ne:Rung.split c r≠[]:=by
    cases r with
    |nil=>simp[Rung.split]
    |cons y z=>unfold Rung.split;split<;>(try split)<;>simp
   cases hq:Rung.split c r with
   |nil=>exact absurd hq ne
   |cons u v=>
    have e2:Rung.split c (x::r)=(x::u)::v:=by
     rw[Rung.split,if_neg hx,hq]
    rw[e2]
    simp
theorem lH(c:UInt8)(b:Rung.Bytes):Rung.split c b≠[]:=by
 cases b with
 |nil=>simp[Rung.split]
 |cons y z=>unfold Rung.split;split<;>(try split)<;>simp
theorem ZC(s:Nat)(c:UInt8)(y:String)(hy:(Str.ofString y).cps.toList=[s])(hk:s<256)(hs:∀d:UInt8,sgn d=s↔d=c)(b:Rung.Bytes):Txt.split (S b) (Str.ofString y)=(Rung.split c b).map S:=by
 have hyt:TL.tl (Str.ofString y)=[s]:=hy
 refine TL.VB ?_
 rw[TL.agn _ _ (by rw[hyt];simp) (TL.aiw (by
  rw[←Array.all_toList,hy]
  simpa using hk)),hyt,BK]
 have h:=Jp s c hs b []
 simp only[List.map_nil,List.nil_append] at h
 rw[h,List.map_map]
 cases hq:Rung.split c b with
 |nil=>exact absurd hq (lH c b)
 |cons u v=>
  simp only[List.headD_cons,List.tail_cons]
  refine List.map_congr_left fun x _=>?_
  exact(BK x).symm
theorem agK(b:Rung.Bytes):Txt.split (S b) (Str.ofString " ")=(Rung.split 32 b).map S:=ZC 32 32 " " (by decide+kernel) (by decide) ajW b
theorem agL(b:Rung.Bytes):Txt.split (S b) (Str.ofString "\n")=(Rung.split 10 b).map S:=ZC 10 10 "\n" (by decide+kernel) (by decide) ajX b
theorem Xf:∀(l:List (List Nat)),TL.rK [] l=l.flatten
 | []=>rfl
 | [p]=>by simp[TL.rK]
 |p::q::r=>by
  have ih:=Xf (q::r)
  simp only[TL.rK,List.nil_append,ih,List.flatten_cons]
theorem aak(t:Rung.Bytes):Txt.join (Str.ofString "") (t.map fun c=>(⟨#[sgn c]⟩:Str))=S t:=by
 refine TL.Mv ?_
 rw[TL.join_eq,TL.Zg]
 have e:TL.tl (Str.ofString "")=[]:=by decide+kernel
 rw[e,Xf,BK,List.map_map]
 have gen:∀l:Rung.Bytes,(l.map (TL.tl∘fun c=>(⟨#[sgn c]⟩:Str))).flatten=l.map sgn:=by
  intro l
  induction l with
  |nil=>rfl
  |cons c r ih=>
   rw[List.map_cons,List.flatten_cons,ih]
   rfl
 exact gen t
local macro_rules| `(tactic|walk_at"rd")=> `(tactic|simp only[aB,bB,aZ,lY,tC,rI,bx,aj,aL,aG,bA,dh,gU,sE,aY,aJ,bU,ak,aq,aU,jW,bQ,Bs,iZ,Bm,gA,tB,Oj,pZ,iu,ou,rU,iU,j8,mQ,Bx,vG,Nz,cB,NQ,mH,qN,sH,rJoin,i_,Bt,lM,zQ,NT,Cr,aP,vg,nM,jo,kW,kj,Ng,Oh,Nm,Cq,dg,zN,Br,iW,jD,Bv,Lr,Ls,Lw,JN,List.getElem?_cons_zero,List.getElem?_cons_succ,List.set_cons_zero,List.set_cons_succ,Option.some.injEq,V.int.injEq,V.bl.injEq,V.str.injEq,V.ref.injEq,reduceCtorEq,exists_eq_left,exists_eq_left',exists_eq_right,exists_eq_right',exists_and_left,exists_and_right,true_and,and_true,false_and,and_false,if_true,if_false,ite_true,ite_false,Bool.false_eq_true,decide_eq_true_eq,jw,List.cons.injEq,List.append_nil,exists_const,decide_true,decide_false,or_false,false_or,or_true,true_or,exists_false,exists_eq',exists_eq,Bool.not_eq_true',Bool.not_true,Bool.not_false,fO,List.map_cons,List.map_nil])
theorem afB:∀c:UInt8,97≤(c.toNat:Int)→(c.toNat:Int)≤122→gW (Str.ofString "abcdefghijklmnopqrstuvwxyz").cps.toList ((c.toNat:Int) - 97)=some (sgn c):=g_ _ (by decide+kernel)
theorem afC:∀c:UInt8,48≤(c.toNat:Int)→(c.toNat:Int)≤57→gW (Str.ofString "0123456789").cps.toList ((c.toNat:Int) - 48)=some (sgn c):=g_ _ (by decide+kernel)
theorem ahI:∀c:UInt8,¬(97≤(c.toNat:Int)∧(c.toNat:Int)≤122)→¬(48≤(c.toNat:Int)∧(c.toNat:Int)≤57)→¬((c.toNat:Int)=32)→¬((c.toNat:Int)=10)→sgn c=63:=g_ _ (by decide+kernel)
theorem aaB:∀c:UInt8,((c.toNat:Int)=32→sgn c=32)∧((c.toNat:Int)=10→sgn c=10):=g_ _ (by decide+kernel)
theorem ahJ(c:UInt8):sgn c∈(Str.ofString "abcdefghijklmnopqrstuvwxyz").cps.toList↔Rung.isSmall c=true:=by
 rw[←Zx c,decide_eq_true_eq]
theorem akF:(Str.ofString " ")=⟨#[32]⟩:=by decide+kernel
theorem akG:(Str.ofString "\n")=⟨#[10]⟩:=by decide+kernel
theorem akH:(Str.ofString "?")=⟨#[63]⟩:=by decide+kernel
section
variable{K:PySem.W.Frag}{mg:Str→Option Value}{A:Ad}
theorem agM(T:Tx K mg A)(vs:List V)(H:Hp)(Q:VK)(E:XK)(h:tY vs H Q E):V5 K A {nx:=fun _ H'=>Q .non H',rt:=Q} (L2.start ["part"] vs) H:=by
 obtain⟨x,rfl,hl,q⟩:=h
 refine⟨_,rfl,x,0,63,rfl,hl,by decide,q⟩
theorem agN(T:Tx K mg A)(vs:List V)(H:Hp)(Q:VK)(E:XK)(h:Jj vs H Q E):yN K A {nx:=fun _ H'=>Q .non H',rt:=Q} (L2.start ["byte"] vs) H:=by
 obtain⟨c,rfl,q⟩:=h
 show yN K A _ [some (.int (c.toNat:Nat))] H
 have h4:¬(97≤(c.toNat:Int)∧(c.toNat:Int)≤122)→Hq K A {nx:=fun _ H'=>Q .non H',rt:=Q} [some (.int (c.toNat:Nat))] H:=fun n1=>by
  have h3:¬(48≤(c.toNat:Int)∧(c.toNat:Int)≤57)→Ho K A {nx:=fun _ H'=>Q .non H',rt:=Q} [some (.int (c.toNat:Nat))] H:=fun n2=>by
   unfold Ho Uh Ug
   walk_at"rd"
   split
   ·rename_i e
    rw[akF,←(aaB c).1 e]
    exact q
   ·rename_i e3
    split
    ·rename_i e
     rw[akG,←(aaB c).2 e]
     exact q
    ·rename_i e4
     rw[akH,←ahI c n1 n2 e3 e4]
     exact q
  unfold Hq
  walk_at"rd"
  split
  ·rename_i e1
   split
   ·rename_i e2
    exact⟨by decide+kernel,_,afC c e1 e2,q⟩
   ·rename_i e2
    exact h3 fun z=>e2 z.2
  ·rename_i e1
   exact h3 fun z=>e1 z.1
 unfold yN
 walk_at"rd"
 split
 ·rename_i e1
  split
  ·rename_i e2
   exact⟨by decide+kernel,_,afB c e1 e2,q⟩
  ·rename_i e2
   exact h4 fun z=>e2 z.2
 ·rename_i e1
  exact h4 fun z=>e1 z.1
theorem aa5{x:Rung.Bytes}{c:UInt8}{r:Rung.Bytes}(e:x=c::r):gW (S x).cps.toList 0=some (sgn c):=by
 rw[jR,e]
 exact j9 (j:=0) rfl
theorem aeG(T:Tx K mg A)(vs:List V)(H:Hp)(Q:VK)(E:XK)(h:yg vs H Q E):yj K A {nx:=fun _ H'=>Q .non H',rt:=Q} (L2.start ["part","least","greatest"] vs) H:=by
 obtain⟨x,lo,hi,rfl,hl,hh,q⟩:=h
 show yj K A _ [some (vS x),some (.int lo),some (.int hi)] H
 unfold yj R_ R9
 walk_at"rd"
 have hsl:(S x).length≤sizeLine:=by rw[jt];exact YB hl
 have hls:((S x).length:Int)=(x.length:Int):=by rw[jt]
 simp only[hsl,true_and,hls,agJ]
 cases x with
 |nil=>simpa [Rung.number] using q
 |cons c r=>
  by_cases hd:(c::r).all Rung.isDigit=true
  ·have hi1:∀(_:List.length (c::r)≤5),intText? (S (c::r))=some ((Rung.numberOf (c::r):Nat):Int):=fun h5=>aaA hd (by simp) hl (by omega)
   have fin:List.length (c::r)≤5→¬(c=48∧1<(c::r).length)→∃x_1,intText? (S (c::r))=some x_1∧(S (c::r)).length≤640∧if(lo:Int)≤x_1 then Q (V.bl (decide (x_1≤(hi:Int)))) H else Q (V.bl false) H:=fun h5 hz=>by
    refine⟨_,hi1 h5,by rw[jt];omega,?_⟩
    have en:(Rung.number lo hi (c::r)).isSome=(decide (lo≤Rung.numberOf (c::r))&&decide (Rung.numberOf (c::r)≤hi)):=by
     unfold Rung.number
     by_cases h1:lo≤Rung.numberOf (c::r)
     ·by_cases h2:Rung.numberOf (c::r)≤hi
      ·rw[if_neg]
       ·simp[h1,h2]
       ·rintro(z|z|⟨z1,z2⟩|z|z)
        ·simp at z
        ·rw[hd] at z;simp at z
        ·exact hz ⟨by simpa using z1,z2⟩
        ·omega
        ·omega
      ·rw[if_pos (.inr (.inr (.inr (.inr (by omega)))))]
       simp[h2]
     ·rw[if_pos (.inr (.inr (.inr (.inl (by omega)))))]
      simp[h1]
    rw[en] at q
    split
    ·rename_i e
     have e1:lo≤Rung.numberOf (c::r):=by omega
     have e2:decide (((Rung.numberOf (c::r):Nat):Int)≤(hi:Int))=decide (Rung.numberOf (c::r)≤hi):=by
      by_cases z:Rung.numberOf (c::r)≤hi
      ·rw[decide_eq_true z,decide_eq_true (by omega)]
      ·rw[decide_eq_false z,decide_eq_false (by omega)]
     rw[e2]
     simpa [e1] using q
    ·rename_i e
     have e1:¬lo≤Rung.numberOf (c::r):=by omega
     simpa [e1] using q
   have ed:(!List.isEmpty (c::r)&&List.all (c::r) Rung.isDigit)=true:=by simp[hd]
   rw[ed]
   simp only[Bool.true_eq_false,if_false]
   by_cases h5:(5:Int)<(List.length (c::r):Int)
   ·rw[if_pos h5]
    have en:(Rung.number lo hi (c::r)).isSome=false:=by
     unfold Rung.number
     by_cases h0:c=48
     ·rw[if_pos (.inr (.inr (.inl ⟨by rw[h0];rfl,by omega⟩)))]
      rfl
     ·have:=Tq hd (by simpa using h0) (by omega)
      rw[if_pos (.inr (.inr (.inr (.inr (by omega)))))]
      rfl
    rw[en] at q
    exact q
   ·rw[if_neg h5]
    by_cases h1:(1:Int)<(List.length (c::r):Int)
    ·rw[if_pos h1]
     refine⟨_,aa5 rfl,?_⟩
     have e48:(({cps:= #[sgn c]}:Str)=Str.ofString "0")↔c=48:=by
      have l48:(Str.ofString "0")=⟨#[48]⟩:=by decide+kernel
      rw[l48,←ajY c]
      simp
     by_cases h0:c=48
     ·rw[if_pos (e48.mpr h0)]
      have en:(Rung.number lo hi (c::r)).isSome=false:=by
       unfold Rung.number
       rw[if_pos (.inr (.inr (.inl ⟨by rw[h0];rfl,by omega⟩)))]
       rfl
      rw[en] at q
      exact q
     ·rw[if_neg (fun z=>h0 (e48.mp z))]
      exact fin (by omega) fun z=>h0 z.1
    ·rw[if_neg h1]
     exact fin (by omega) fun z=>h1 (by omega)
  ·have hf:(c::r).all Rung.isDigit=false:=by simpa using hd
   have en:(Rung.number lo hi (c::r)).isSome=false:=by
    unfold Rung.number
    rw[if_pos (.inr (.inl hf))]
    rfl
   rw[en] at q
   have ed:(!List.isEmpty (c::r)&&List.all (c::r) Rung.isDigit)=false:=by rw[hf];simp
   rw[ed]
   simpa using q
theorem Tr{f:Nat→Bool}{n:Nat}{ys:List V}(h:Paired (fun j y=>y=V.bl (f j)) ((List.range n).filter fun _=>true) ys):ys=((List.range n).map f).map V.bl:=by
 rw[show(List.range n).filter (fun _=>true)=List.range n from List.filter_eq_self.mpr fun _ _=>rfl] at h
 have gen:∀(l:List Nat) (ys:List V),Paired (fun j y=>y=V.bl (f j)) l ys→ys=(l.map f).map V.bl:=by
  intro l
  induction l with
  |nil=>intro ys h;cases h;rfl
  |cons a r ih=>
   intro ys h
   cases h with
   |cons p q=>rw[p,ih _ q];rfl
 exact gen _ _ h
theorem GR{α:Type}(f:α→Bool):∀(l:List α) (d:α),(List.range l.length).map (fun i=>f (l.getD i d))=l.map f
 | [],_=>rfl
 |a::r,d=>by
  rw[List.length_cons,List.range_succ_eq_map,List.map_cons,List.map_map,List.map_cons]
  have e:((fun i=>f ((a::r).getD i d))∘Nat.succ)=fun i=>f (r.getD i d):=rfl
  rw[e,GR f r d]
  rfl
theorem agO(T:Tx K mg A)(vs:List V)(H:Hp)(Q:VK)(E:XK)(h:tX vs H Q E):yO K A {nx:=fun _ H'=>Q .non H',rt:=Q} (L2.start ["part","sign"] vs) H:=by
 obtain⟨x,rfl,hl,q⟩:=h
 show yO K A _ [some (vS x),none] H
 have hsl:(S x).length≤sizeLine:=by rw[jt];exact YB hl
 have hls:((S x).length:Int)=(x.length:Int):=by rw[jt]
 unfold yO
 walk_at"rd"
 simp only[hsl,true_and,hls]
 cases x with
 |nil=>exact q.here rfl
 |cons c r=>
  rw[if_pos (by simp only[List.length_cons];omega)]
  by_cases h12:(c::r).length≤12
  ·rw[decide_eq_true (show(((c::r).length:Nat):Int)≤12 by omega)]
   simp only[Bool.true_eq_false,if_false]
   refine⟨_,aa5 rfl,sgn c,rfl,?_⟩
   rw[Zx c]
   cases hc:Rung.isSmall c with
   |false=>
    simp only[Bool.not_false,if_true]
    exact q.here (by simp[Rung.isName,hc])
   |true=>
    rw[if_neg (by simp)]
    unfold Ui
    walk_at"rd"
    refine⟨_,rfl,S (c::r),rfl,fun D hD=>?_⟩
    refine aiB (fun _=>true) (fun j y _=>y= .bl (Rung.isSmall ((c::r).getD j 0)||Rung.isDigit ((c::r).getD j 0))) hD (fun i c' Hc hi sm Qt h=>h Hc (Same.refl _)) (fun i c' Hc hi _ sm Qe h=>?_) (fun _ _ _ _ _ p=>p) (by rw[show(S (c::r)).cps.size=(S (c::r)).length from rfl];exact hsl) ?_
    ·have hi':((c::r).map sgn)[i]? =some c':=by
      rw[←jR]
      simpa using hi
     rw[List.getElem?_map] at hi'
     obtain⟨d,hd,rfl⟩:=Option.map_eq_some_iff.mp hi'
     have hg:(c::r).getD i 0=d:=by simp[List.getD_eq_getElem?_getD,hd]
     simp only[L2.wipe,List.set_cons_succ,List.set_cons_zero]
     walk_at"rd"
     refine⟨sgn d,rfl,?_⟩
     simp only[ahJ]
     cases hs:Rung.isSmall d with
     |true=>
      rw[if_pos rfl]
      exact h _ Hc (Same.refl _) (by rw[hg,hs];rfl)
     |false=>
      simp only[Bool.false_eq_true,if_false]
      refine⟨sgn d,rfl,?_⟩
      rw[aiQ d]
      exact h _ Hc (Same.refl _) (by rw[hg,hs];rfl)
    ·intro ys H' sm hy pr
     have ey:=Tr pr
     refine⟨D,rfl,_,.inl (.inl (by rw[←ey];exact hy)),q _ H' sm ?_⟩
     have hsz:(S (c::r)).cps.size=(c::r).length:=jt (c::r)
     rw[hsz]
     have e:=GR (fun d=>Rung.isSmall d||Rung.isDigit d) (c::r) 0
     rw[e]
     have ala:decide ((c::r).length≤12)=true:=decide_eq_true h12
     simp only[Rung.isName,ala,hc,Bool.true_and,List.map_cons,List.all_cons,List.all_map,Bool.true_or,id,Function.comp_def]
  ·rw[decide_eq_false (show ¬(((c::r).length:Nat):Int)≤12 by omega)]
   simp only[if_true]
   exact q.here (by simp only[Rung.isName,decide_eq_false h12,Bool.false_and])
theorem eV{a:Addr}{H H':Hp}{ps:List Rung.Bytes}(h:spl a H ps)(s:Same H H'):au K H' a (ps.map vS):=au.of (s _ _ h.1)
theorem M9{H H1:Hp}{C p x dx:Addr}{o:HO}{fs:List (Str×V)}(s1:Same H H1)(hp:H1 p=none)(hx:(upd H1 p o) x=none)(hdx:(upd H1 p o) dx=none)(ne:dx≠x):
 Same H (upd (upd (upd H1 p o) dx (.own x)) x (.ins C dx fs))∧nw H (upd (upd (upd H1 p o) dx (.own x)) x (.ins C dx fs)) x=some (.ins C dx fs)∧nw H (upd (upd (upd H1 p o) dx (.own x)) x (.ins C dx fs)) p=some o:=by
 have hxp:x≠p:=fun z=>by rw[z,aC] at hx;cases hx
 have hdp:dx≠p:=fun z=>by rw[z,aC] at hdx;cases hdx
 have hp0:H p=none:=s1.free hp
 have hx1:H1 x=none:=by rw[aH hxp] at hx;exact hx
 have hd1:H1 dx=none:=by rw[aH hdp] at hdx;exact hdx
 have hx0:H x=none:=s1.free hx1
 have hd0:H dx=none:=s1.free hd1
 refine⟨cC (cC (cC s1 hp0) hd0) hx0,bO hx0 aC,bO hp0 ?_⟩
 rw[aH (Ne.symm hxp),aH (Ne.symm hdp),aC]
theorem adV(T:Tx K mg A)(vs:List V)(H:Hp)(Q:VK)(E:XK)(h:Gz A vs H Q E):xV K A {nx:=fun _ H'=>Q .non H',rt:=Q} (L2.start ["parts"] vs) H:=by
 obtain⟨a,ps,rfl,hs,q⟩:=h
 show xV K A _ [some (.ref a)] H
 unfold xV Rk
 walk_at"rd"
 refine⟨_,.inl (eV hs (Same.refl H)),?_⟩
 have bad:ps.length≠2→jY ps=none:=fun hne=>by
  match ps,hne with
  | [],_=>rfl
  | [_],_=>rfl
  | [_,_],h=>exact absurd rfl h
  |_::_::_::_,_=>rfl
 by_cases h2:ps.length=2
 ·rw[List.length_map,if_neg (by simp[h2])]
  obtain⟨w,x,rfl⟩:∃w x,ps=[w,x]:=by
   match ps,h2 with
   | [w,x],_=>exact⟨w,x,rfl⟩
  refine⟨_,eV hs (Same.refl H),vS x,rfl,x,rfl,hs.2.2 x (by simp),fun v H1 s1 r1=>?_⟩
  subst r1
  refine⟨_,rfl,?_⟩
  cases hx:Rung.isName x with
  |false=>
   rw[if_pos rfl]
   exact q _ H1 s1 (by simp[jY,hx,dO])
  |true=>
   rw[if_neg (by simp)]
   refine⟨_,eV hs s1,vS x,rfl,by decide,fun p hp=>⟨rfl,fun y dx hy hdx ne=>?_⟩⟩
   obtain⟨e1,e2,e3⟩:=M9 (C:=A.row) (fs:=[("rank",.int 0),("name",vS x),("nodes",.ref p),("opener",.int 0)]) s1 hp hy hdx ne
   refine q _ _ e1 ?_
   simp only[jY,hx,if_true,dO]
   exact⟨y,dx,p,rfl,e2,e3⟩
 ·rw[List.length_map,if_pos (by simp;omega)]
  exact q.here (by rw[bad h2];rfl)
end
theorem len1(v:V):[v].length≤sizeLine:=by show 1≤sizeLine;decide
theorem len2(v w:V):[v,w].length≤sizeLine:=by show 2≤sizeLine;decide
section
variable{K:PySem.W.Frag}{mg:Str→Option Value}{A:Ad}
theorem Jq{lo hi:Nat}{x:Rung.Bytes}{k:Nat}(hh:hi<100000)(hl:x.length≤jX)(h:Rung.number lo hi x=some k):intText? (S x)=some (k:Int)∧(S x).length≤640:=by
 unfold Rung.number at h
 split at h
 ·cases h
 ·rename_i hn
  have e:=Option.some.inj h
  subst e
  have h1:x≠[]:=fun z=>hn (.inl z)
  have h2:x.all Rung.isDigit=true:=by
   cases q:x.all Rung.isDigit with
   |true=>rfl
   |false=>exact absurd (.inr (.inl q)) hn
  have h5:x.length≤5:=by
   refine Decidable.byContradiction fun z=>?_
   by_cases h0:x.head?=some 48
   ·exact hn (.inr (.inr (.inl ⟨h0,by omega⟩)))
   ·have:=Tq h2 h0 (by omega)
    exact hn (.inr (.inr (.inr (.inr (by omega)))))
  exact⟨aaA h2 h1 hl (by omega),by rw[jt];omega⟩
theorem aeH(T:Tx K mg A)(vs:List V)(H:Hp)(Q:VK)(E:XK)(h:yh A vs H Q E):yp K A {nx:=fun _ H'=>Q .non H',rt:=Q} (L2.start ["parts","rank"] vs) H:=by
 obtain⟨a,ps,r,rfl,hs,q⟩:=h
 show yp K A _ [some (.ref a),some (.int r)] H
 unfold yp Sg
 walk_at"rd"
 refine⟨_,.inl (eV hs (Same.refl H)),?_⟩
 have bad:ps.length≠4→d7 ps=none:=fun hne=>by
  match ps,hne with
  | [],_=>rfl
  | [_],_=>rfl
  | [_,_],_=>rfl
  | [_,_,_],_=>rfl
  | [_,_,_,_],h=>exact absurd rfl h
  |_::_::_::_::_::_,_=>rfl
 by_cases h2:ps.length=4
 ·rw[List.length_map,if_neg (by simp[h2])]
  obtain⟨w,x,y,n,rfl⟩:∃w x y n,ps=[w,x,y,n]:=by
   match ps,h2 with
   | [w,x,y,n],_=>exact⟨w,x,y,n,rfl⟩
  refine⟨_,eV hs (Same.refl H),vS x,rfl,x,rfl,hs.2.2 x (by simp),fun v H1 s1 r1=>?_⟩
  subst r1
  refine⟨_,rfl,?_⟩
  cases hx:Rung.isName x with
  |false=>
   rw[if_pos rfl]
   exact q _ H1 s1 (by simp[d7,hx])
  |true=>
   rw[if_neg (by simp)]
   refine⟨_,eV hs s1,vS y,rfl,rfl,?_⟩
   by_cases hy:y=Rung.ascii "at"
   ·rw[if_neg (by simp[aa4,hy])]
    refine⟨_,eV hs s1,vS n,rfl,n,rfl,hs.2.2 n (by simp),_,rfl,?_⟩
    cases hk:Rung.number 0 63 n with
    |none=>
     rw[if_pos (by rfl)]
     exact q _ H1 s1 (by simp[d7,hx,hy,hk])
    |some k=>
     rw[if_neg (by simp)]
     obtain⟨i1,i2⟩:=Jq (by decide) (hs.2.2 n (by simp)) hk
     refine⟨_,eV hs s1,vS x,rfl,_,eV hs s1,vS n,rfl,S n,rfl,(k:Int),i1,i2,len1 _,fun p hp=>⟨rfl,fun y' dx hy' hdx ne=>?_⟩⟩
     obtain⟨e1,e2,e3⟩:=M9 (C:=A.row) (fs:=[("rank",.int r),("name",vS x),("nodes",.ref p),("opener",.int 0)]) s1 hp hy' hdx ne
     refine q _ _ e1 ?_
     simp only[d7,hx,hy,hk,and_self,if_true,Option.map_some]
     exact⟨y',dx,p,rfl,e2,e3⟩
   ·rw[if_pos (by simp[aa4,hy])]
    exact q _ H1 s1 (by simp[d7,hx,hy])
 ·rw[List.length_map,if_pos (by simp;omega)]
  exact q.here (by rw[bad h2])
theorem acZ(T:Tx K mg A)(vs:List V)(H:Hp)(Q:VK)(E:XK)(h:wU A vs H Q E):wV K A {nx:=fun _ H'=>Q .non H',rt:=Q} (L2.start ["parts","opener","nodes"] vs) H:=by
 obtain⟨a,ps,op,rfl,hop,hs,q⟩:=h
 show wV K A _ [some (.ref a),some (.int op),none] H
 unfold wV
 walk_at"rd"
 refine⟨_,.inl (eV hs (Same.refl H)),?_⟩
 have bad:ps.length≠4→dZ op ps=none:=fun hne=>by
  match ps,hne with
  | [],_=>rfl
  | [_],_=>rfl
  | [_,_],_=>rfl
  | [_,_,_],_=>rfl
  | [_,_,_,_],h=>exact absurd rfl h
  |_::_::_::_::_::_,_=>rfl
 by_cases h2:ps.length=4
 ·rw[List.length_map,if_neg (by simp[h2])]
  obtain⟨w,x,n,m,rfl⟩:∃w x n m,ps=[w,x,n,m]:=by
   match ps,h2 with
   | [w,x,n,m],_=>exact⟨w,x,n,m,rfl⟩
  refine⟨_,eV hs (Same.refl H),vS x,rfl,x,rfl,hs.2.2 x (by simp),fun v H1 s1 r1=>?_⟩
  subst r1
  refine⟨_,rfl,?_⟩
  cases hx:Rung.isName x with
  |false=>
   rw[if_pos rfl]
   exact q _ H1 s1 (by simp[dZ,hx,dO])
  |true=>
   rw[if_neg (by simp)]
   refine⟨_,eV hs s1,vS n,rfl,n,rfl,hs.2.2 n (by simp),_,rfl,?_⟩
   cases hk:Rung.number 0 63 n with
   |none=>
    rw[if_pos (by rfl)]
    exact q _ H1 s1 (by simp[dZ,hx,hk,dO])
   |some k=>
    rw[if_neg (by simp)]
    refine⟨_,eV hs s1,vS m,rfl,m,rfl,hs.2.2 m (by simp),_,rfl,?_⟩
    cases hj:Rung.number 0 63 m with
    |none=>
     rw[if_pos (by rfl)]
     exact q _ H1 s1 (by simp[dZ,hx,hk,hj,dO])
    |some j=>
     rw[if_neg (by simp)]
     obtain⟨i1,i2⟩:=Jq (by decide) (hs.2.2 n (by simp)) hk
     obtain⟨j1,j2⟩:=Jq (by decide) (hs.2.2 m (by simp)) hj
     unfold QB Qz Qy
     walk_at"rd"
     refine⟨_,eV hs s1,vS n,rfl,S n,rfl,(k:Int),i1,i2,_,eV hs s1,vS m,rfl,S m,rfl,(j:Int),j1,j2,len2 _ _,fun p hp=>?_⟩
     have hap:a≠p:=bM (s1 _ _ hs.1) hp
     refine⟨_,au.of aC,.int k,rfl,_,au.of aC,.int j,rfl,(k:Int),rfl,(j:Int),rfl,?_⟩
     have s2:Same H (upd H1 p (.lst [.int k,.int j])):=cC s1 (s1.free hp)
     by_cases hkj:k<j
     ·rw[if_neg (by omega)]
      refine⟨_,eV hs s2,vS x,rfl,rfl,fun y' dx hy' hdx ne=>?_⟩
      obtain⟨e1,e2,e3⟩:=M9 (C:=A.row) (fs:=[("rank",.int 3),("name",vS x),("nodes",.ref p),("opener",.int op)]) s1 hp hy' hdx ne
      refine q _ _ e1 ?_
      simp only[dZ,hx,hk,hj,if_true,hkj,dO]
      refine⟨y',dx,p,rfl,e2.trans ?_,e3⟩
      rcases hop with z|z<;>(subst z;rfl)
     ·rw[if_pos (by omega)]
      exact q _ _ s2 (by simp[dZ,hx,hk,hj,hkj,dO])
 ·rw[List.length_map,if_pos (by simp;omega)]
  exact q.here (by rw[bad h2];rfl)
end
def u5:List Rung.Bytes→Option Rung.Line
 | []=>none
 |w::r=>if w=Rung.ascii "in" then jY (w::r) else if w=Rung.ascii "relay" then jN (w::r) else
  if w=Rung.ascii "lamp" then(d7 (w::r)).map (fun u=>.lamp ⟨u.1,u.2⟩) else if w=Rung.ascii "open" then dZ 1 (w::r) else if w=Rung.ascii "close" then dZ 0 (w::r) else none
theorem Xg(b:Rung.Bytes):Rung.lineIn b=u5 (Rung.split 32 b):=by
 unfold Rung.lineIn u5
 generalize Rung.split 32 b=ps
 have n1:Rung.ascii "relay"≠Rung.ascii "in":=by decide+kernel
 have n2:Rung.ascii "lamp"≠Rung.ascii "in":=by decide+kernel
 have n3:Rung.ascii "lamp"≠Rung.ascii "relay":=by decide+kernel
 have n4:Rung.ascii "open"≠Rung.ascii "in"∧Rung.ascii "open"≠Rung.ascii "relay"∧Rung.ascii "open"≠Rung.ascii "lamp"∧Rung.ascii "open"≠Rung.ascii "close":=by decide+kernel
 have n5:Rung.ascii "close"≠Rung.ascii "in"∧Rung.ascii "close"≠Rung.ascii "relay"∧Rung.ascii "close"≠Rung.ascii "lamp":=by decide+kernel
 match ps with
 | []=>rfl
 | [w]=>
   simp only[jY,jN,d7,dZ,List.take,List.drop,Rung.delays]
   repeat' split
   all_goals rfl
 |w::x::r=>
  simp only[]
  by_cases hx:Rung.isName x=true
  ·rw[if_neg (by simp[hx])]
   by_cases w1:w=Rung.ascii "in"
   ·subst w1
    rw[if_pos rfl,if_pos rfl]
    cases r with
    |nil=>simp[jY,hx]
    |cons _ _=>simp[jY]
   ·rw[if_neg w1,if_neg w1]
    by_cases w2:w=Rung.ascii "relay"
    ·subst w2
     rw[if_pos rfl,if_pos rfl]
     match r with
     | []=>simp[jN,d7,Rung.delays]
     | [_]=>simp[jN,d7,Rung.delays]
     |a::n::z=>
      simp only[jN,List.drop_succ_cons,List.drop_zero,List.take_succ_cons,List.take_zero,d7,hx,true_and]
      by_cases ha:a=Rung.ascii "at"
      ·simp only[ha,if_true]
       cases Rung.number 0 63 n<;>cases Rung.delays z<;>rfl
      ·simp only[ha,if_false]
       cases Rung.delays z<;>rfl
    ·rw[if_neg w2,if_neg w2]
     by_cases w3:w=Rung.ascii "lamp"
     ·subst w3
      rw[if_pos rfl,if_pos rfl]
      match r with
      | []=>simp[d7]
      | [_]=>simp[d7]
      | [a,n]=>
        simp only[d7,hx,true_and]
        by_cases ha:a=Rung.ascii "at"
        ·simp only[ha,if_true]
         cases Rung.number 0 63 n<;>rfl
        ·simp only[ha,if_false]
         rfl
      |_::_::_::_=>simp[d7]
     ·rw[if_neg w3,if_neg w3]
      by_cases w4:w=Rung.ascii "open"
      ·subst w4
       rw[if_pos (.inl rfl),if_pos rfl]
       match r with
       | []=>simp[dZ]
       | [_]=>simp[dZ]
       | [n,m]=>
         simp only[dZ,hx,if_true]
         cases Rung.number 0 63 n<;>cases Rung.number 0 63 m<;>first|rfl|(simp only[];have e:(Rung.ascii "open"==Rung.ascii "close")=false:=by decide+kernel;rw[e];rfl)
       |_::_::_::_=>simp[dZ]
      ·by_cases w5:w=Rung.ascii "close"
       ·subst w5
        rw[if_pos (.inr rfl),if_neg w4,if_pos rfl]
        match r with
        | []=>simp[dZ]
        | [_]=>simp[dZ]
        | [n,m]=>
          simp only[dZ,hx,if_true]
          cases Rung.number 0 63 n<;>cases Rung.number 0 63 m<;>first|rfl|(simp only[beq_self_eq_true])
        |_::_::_::_=>simp[dZ]
       ·rw[if_neg (by rintro(z|z);exact w4 z;exact w5 z),if_neg w4,if_neg w5]
  ·have hx':Rung.isName x=false:=by simpa using hx
   rw[if_pos hx']
   have a1:jY (w::x::r)=none:=by
    cases r<;>simp[jY,hx']
   have a2:∀r':List Rung.Bytes,d7 (w::x::r')=none:=fun r'=>by
    match r' with
    | []=>rfl
    | [_]=>rfl
    | [_,_]=>simp[d7,hx']
    |_::_::_::_=>rfl
   have a3:jN (w::x::r)=none:=by
    simp only[jN,List.take_succ_cons,a2]
    cases Rung.delays ((w::x::r).drop 4)<;>rfl
   have a4:∀op,dZ op (w::x::r)=none:=fun op=>by
    match r with
    | []=>rfl
    | [_]=>rfl
    | [_,_]=>simp[dZ,hx']
    |_::_::_::_=>rfl
   rw[a1,a2,a3,a4,a4]
   simp
theorem split_len(c:UInt8):∀b:Rung.Bytes,(Rung.split c b).length≤b.length+1∧∀p∈Rung.split c b,p.length≤b.length
 | []=>by simp[Rung.split]
 |x::r=>by
  obtain⟨h1,h2⟩:=split_len c r
  rw[Rung.split]
  split
  ·refine⟨by simp only[List.length_cons];omega,fun p hp=>?_⟩
   rcases List.mem_cons.mp hp with rfl|hp
   ·simp
   ·have:=h2 p hp
    simp only[List.length_cons]
    omega
  ·cases hq:Rung.split c r with
   |nil=>exact absurd hq (lH c r)
   |cons u v=>
    rw[hq] at h1 h2
    refine⟨by simp only[List.length_cons] at h1⊢;omega,fun p hp=>?_⟩
    rcases List.mem_cons.mp hp with rfl|hp
    ·have:=h2 u (List.mem_cons_self ..)
     simp only[List.length_cons]
     omega
    ·have:=h2 p (List.mem_cons_of_mem _ hp)
     simp only[List.length_cons]
     omega
theorem V6(c:UInt8):∀b:Rung.Bytes,((Rung.split c b).getLast?=some []↔(b.getLast?.all fun(d:UInt8)=>d==c)=true)
 | []=>by simp[Rung.split]
 | [x]=>by
   by_cases h:x=c
   ·subst h
    simp[Rung.split]
   ·simp[Rung.split,h]
 |x::y::r=>by
  have ih:=V6 c (y::r)
  have e:(x::y::r).getLast?=(y::r).getLast?:=by simp[List.getLast?_cons_cons]
  rw[e,←ih,Rung.split]
  split
  ·rw[List.getLast?_cons]
   cases hq:Rung.split c (y::r) with
   |nil=>exact absurd hq (lH c _)
   |cons u v=>simp[List.getLast?_cons]
  ·rename_i hx
   cases hq:Rung.split c (y::r) with
   |nil=>exact absurd hq (lH c _)
   |cons u v=>
    cases v with
    |nil=>
     simp only[List.getLast?_singleton,Option.some.injEq,reduceCtorEq,false_iff]
     intro hu
     subst hu
     have:∀(l:Rung.Bytes) (z:UInt8),Rung.split c (z::l)=[[]]→False:=fun l z h=>by
      rw[Rung.split] at h
      split at h
      ·have:=lH c l
       simp only[List.cons.injEq,true_and] at h
       exact this h
      ·cases hl:Rung.split c l with
       |nil=>exact lH c l hl
       |cons a b=>rw[hl] at h;simp at h
     exact this r y hq
    |cons v1 v2=>simp[List.getLast?_cons_cons]
theorem YC(f:Rung.Bytes→Option Rung.Line)(N:Nat):∀(l:List Rung.Bytes) (k:Nat),N≠k+l.length→(∀j,j<l.length→N≠k+j+1)→((l.zipIdx k).map fun(u:Rung.Bytes×Nat)=>if u.2+1=N then none else f u.1)=l.map f
 | [],_,_,_=>rfl
 |x::r,k,h,g=>by
  rw[List.zipIdx_cons,List.map_cons,List.map_cons]
  have g0:=g 0 (by simp)
  rw[if_neg (show ¬(k+1=N) by omega)]
  rw[YC f N r (k+1) (by simp only[List.length_cons] at h;omega) fun j hj=>by
   have:=g (j+1) (by simpa using hj)
   omega]
theorem aiR(t:Rung.Bytes):rowsOf t=(Rung.split 10 t).dropLast.map Rung.lineIn++(if(Rung.split 10 t).getLast?=some [] then [] else [none]):=by
 unfold rowsOf Rung.linesOf Rung.ended
 have hl:=V6 10 t
 by_cases h:(Rung.split 10 t).getLast?=some []
 ·have h2:=hl.mp h
  simp only[h,if_true,h2,Bool.true_eq_false,false_and,if_false,List.append_nil]
  rw[show(fun(u:Rung.Bytes×Nat)=>Rung.lineIn u.1)=Rung.lineIn∘Prod.fst from rfl,←List.map_map,List.zipIdx_map_fst]
 ·have h2:(t.getLast?.all fun(d:UInt8)=>d==10)=false:=by
   cases q:(t.getLast?.all fun(d:UInt8)=>d==10) with
   |false=>rfl
   |true=>exact absurd (hl.mpr q) h
  simp only[h,if_false,h2,true_and]
  obtain⟨m,a,e⟩:∃m a,Rung.split 10 t=m++[a]:=⟨(Rung.split 10 t).dropLast,(Rung.split 10 t).getLast (lH 10 t),(List.dropLast_concat_getLast _).symm⟩
  rw[e,List.dropLast_concat,List.zipIdx_append,List.map_append]
  congr 1
  ·refine YC Rung.lineIn (m++[a]).length m 0 (by simp) fun j hj=>by simp;omega
  ·simp[List.zipIdx_cons]
theorem iY.mono{C:Addr}{G G':Hp}{v:V}{r:Nat}{x:Rung.Name}{ns:List Nat}{op:Nat}(s:Same G G')(h:iY C G v r x ns op):iY C G' v r x ns op:=by
 obtain⟨a,dx,n,e,h1,h2⟩:=h
 exact⟨a,dx,n,e,s _ _ h1,s _ _ h2⟩
theorem dO.mono{C:Addr}{G G':Hp}{v:V}{o:Option Rung.Line}(s:Same G G')(h:dO C G v o):dO C G' v o:=by
 cases o with
 |none=>exact h
 |some l=>exact iY.mono s h
theorem at0{α:Type}(x:α)(r:List α):gW (x::r) 0=some x:=j9 (j:=0) rfl
theorem KJ(xs:List V)(k:Nat):iD xs (some (k:Int)) none=xs.drop k:=by
 unfold iD
 rw[HT.zO,HT.Km]
 by_cases h:k≤xs.length
 ·rw[Nat.min_eq_left h,List.take_of_length_le (by simp)]
 ·rw[Nat.min_eq_right (by omega),Nat.sub_self,List.take_zero,List.drop_eq_nil_of_le (by omega)]
theorem YD(xs:List V)(k:Nat):iD xs none (some (k:Int))=xs.take k:=by
 unfold iD
 rw[HT.zO,HT.Km,List.drop_zero,Nat.sub_zero]
 by_cases h:k≤xs.length
 ·rw[Nat.min_eq_left h]
 ·rw[Nat.min_eq_right (by omega),List.take_length,List.take_of_length_le (by omega)]
theorem YF(xs:List V):iD xs none (some (-1))=xs.dropLast:=by
 unfold iD
 rw[HT.Km,List.drop_zero,Nat.sub_zero]
 have e:HT.fQ xs.length xs.length (some (-1))=xs.length - 1:=by
  show(if(-1:Int)<0 then((-1:Int)+(xs.length:Int)).toNat else min (-1:Int).toNat xs.length)=xs.length - 1
  rw[if_pos (by decide)]
  omega
 rw[e,List.dropLast_eq_take]
section
variable{K:PySem.W.Frag}{mg:Str→Option Value}{A:Ad}
theorem adW(T:Tx K mg A)(vs:List V)(H:Hp)(Q:VK)(E:XK)(h:GC A vs H Q E):xW K A {nx:=fun _ H'=>Q .non H',rt:=Q} (L2.start ["parts"] vs) H:=by
 obtain⟨a,ps,rfl,hs,q⟩:=h
 show xW K A _ [some (.ref a)] H
 unfold xW Rm
 walk_at"rd"
 refine⟨_,eV hs (Same.refl H),fun p hp=>?_⟩
 have e4:iD (ps.map vS) (some 4) none=(ps.drop 4).map vS:=by
  rw[show(4:Int)=((4:Nat):Int) from rfl,KJ,List.map_drop]
 have e5:iD (ps.map vS) none (some 4)=(ps.take 4).map vS:=by
  rw[show(4:Int)=((4:Nat):Int) from rfl,YD,List.map_take]
 rw[e4]
 have s1:Same H (upd H p (.lst ((ps.drop 4).map vS))):=bI hp
 refine⟨p,ps.drop 4,rfl,⟨aC,by rw[List.length_drop];have:=hs.2.1;omega,fun x hx=>hs.2.2 x (List.mem_of_mem_drop hx)⟩,fun v H2 s2 r2=>?_⟩
 subst r2
 refine⟨_,rfl,?_⟩
 have s12:=s1.trans s2
 cases hd:Rung.delays (ps.drop 4) with
 |none=>
  rw[if_pos (by rfl)]
  exact q _ H2 s12 (by simp[jN,hd,dO])
 |some d=>
  rw[if_neg (by simp)]
  refine⟨_,eV hs s12,fun p2 hp2=>?_⟩
  rw[e5]
  have s3:Same H (upd H2 p2 (.lst ((ps.take 4).map vS))):=cC s12 (s12.free hp2)
  refine⟨p2,ps.take 4,1,rfl,⟨aC,by rw[List.length_take];omega,fun x hx=>hs.2.2 x (List.mem_of_mem_take hx)⟩,fun v H4 s4 r4=>q v H4 (s3.trans s4) ?_⟩
  have sb:=zX (H:=H4) s3
  simp only[jN,hd]
  cases hc:d7 (ps.take 4) with
  |none=>
   rw[hc] at r4
   exact r4
  |some u=>
   rw[hc] at r4
   exact iY.mono sb r4
theorem aeI(T:Tx K mg A)(vs:List V)(H:Hp)(Q:VK)(E:XK)(h:Hj A vs H Q E):yq K A {nx:=fun _ H'=>Q .non H',rt:=Q} (L2.start ["line","parts"] vs) H:=by
 obtain⟨b,rfl,hl,q⟩:=h
 show yq K A _ [some (vS b),none] H
 unfold yq
 walk_at"rd"
 refine⟨by decide+kernel,by rw[jt];have:=hl;unfold jX at this;rw[sizeLine_eq];omega,fun p hp=>?_⟩
 rw[agK,List.map_map]
 obtain⟨l1,l2⟩:=split_len 32 b
 rw[Xg] at q
 have ne:=lH 32 b
 generalize hps:Rung.split 32 b=ps at *
 cases ps with
 |nil=>exact absurd rfl ne
 |cons w r=>
  have s1:Same H (upd H p (.lst ((w::r).map vS))):=bI hp
  have hs:spl p (upd H p (.lst ((w::r).map vS))) (w::r):=⟨aC,by have:=hl;unfold jX at this;omega,fun x hx=>Nat.le_trans (l2 x hx) hl⟩
  unfold u5 at q
  dsimp only at q
  have fin:∀{R:V→Hp→Prop} (o:Option Rung.Line),(∀v G,R v G→dO A.row G v o)→(cQ H Q fun v G=>dO A.row G v o)→cQ (upd H p (.lst ((w::r).map vS))) Q R:=fun o hR hq v H2 s2 r2=>hq v H2 (s1.trans s2) (dO.mono (zX s1) (hR v _ r2))
  unfold Sw
  walk_at"rd"
  refine⟨_,au.of hs.1,vS w,at0 _ _,rfl,?_⟩
  by_cases w1:w=Rung.ascii "in"
  ·rw[if_pos (congrArg V.str ((aa3 w).mpr w1))]
   rw[if_pos w1] at q
   exact⟨p,_,rfl,hs,fin _ (fun _ _ z=>z) q⟩
  ·rw[if_neg (fun z=>w1 ((aa3 w).mp (V.str.inj z)))]
   rw[if_neg w1] at q
   unfold Sv
   walk_at"rd"
   refine⟨_,au.of hs.1,vS w,at0 _ _,rfl,?_⟩
   by_cases w2:w=Rung.ascii "relay"
   ·rw[if_pos (congrArg V.str ((Zy w).mpr w2))]
    rw[if_pos w2] at q
    exact⟨p,_,rfl,hs,fin _ (fun _ _ z=>z) q⟩
   ·rw[if_neg (fun z=>w2 ((Zy w).mp (V.str.inj z)))]
    rw[if_neg w2] at q
    unfold Ss
    walk_at"rd"
    refine⟨_,au.of hs.1,vS w,at0 _ _,rfl,?_⟩
    by_cases w3:w=Rung.ascii "lamp"
    ·rw[if_pos (congrArg V.str ((aai w).mpr w3))]
     rw[if_pos w3] at q
     refine⟨p,_,2,rfl,hs,fin _ (fun v G z=>?_) q⟩
     cases hc:d7 (w::r) with
     |none=>rw[hc] at z;exact z
     |some u=>rw[hc] at z;exact z
    ·rw[if_neg (fun z=>w3 ((aai w).mp (V.str.inj z)))]
     rw[if_neg w3] at q
     unfold Sq
     walk_at"rd"
     refine⟨_,au.of hs.1,vS w,at0 _ _,rfl,?_⟩
     by_cases w4:w=Rung.ascii "open"
     ·rw[if_pos (congrArg V.str ((aaj w).mpr w4))]
      rw[if_pos w4] at q
      exact⟨p,_,1,rfl,.inr rfl,hs,fin _ (fun _ _ z=>z) q⟩
     ·rw[if_neg (fun z=>w4 ((aaj w).mp (V.str.inj z)))]
      rw[if_neg w4] at q
      unfold Sh
      walk_at"rd"
      refine⟨_,au.of hs.1,vS w,at0 _ _,rfl,?_⟩
      by_cases w5:w=Rung.ascii "close"
      ·rw[if_pos (congrArg V.str ((Zz w).mpr w5))]
       rw[if_pos w5] at q
       exact⟨p,_,0,rfl,.inl rfl,hs,fin _ (fun _ _ z=>z) q⟩
      ·rw[if_neg (fun z=>w5 ((Zz w).mp (V.str.inj z)))]
       rw[if_neg w5] at q
       exact q _ _ s1 rfl
end
theorem Jr{α β:Type}(f:α→β):∀l:List α,bV (l.map f)=(bV l).map f
 | []=>by simp[bV]
 | [_]=>by simp[bV]
 |_::_::r=>by simp[bV,Jr f r]
theorem ab{H:Hp}{p:Addr}(o:HO)(h:H p=none):∃H',upd H p o=H'∧Same H H'∧H' p=some o:=⟨_,rfl,bI h,aC⟩
theorem ZD(K:PySem.W.Frag)(H:Hp):∀ws:List Rung.Bytes,n6 K H (ws.map vS) (ws.map fun w=>PyData.str (S w))
 | []=>.nil
 |w::r=>.cons (.str _) (ZD K H r)
theorem alb(b:Rung.Bytes):PyData.strOk (S b)=true:=by
 unfold PyData.strOk
 rw[←Array.all_toList,jR,List.all_map,List.all_eq_true]
 intro c _
 have:=ajZ c
 simp only[Function.comp_def,decide_eq_true_eq]
 omega
theorem YG:∀ws:List Rung.Bytes,PyData.canLayAll0 (ws.map fun w=>PyData.str (S w))=true∧PyData.depthAll (ws.map fun w=>PyData.str (S w))=0
 | []=>⟨rfl,rfl⟩
 |w::r=>by
  obtain⟨h1,h2⟩:=YG r
  refine⟨?_,?_⟩
  ·show(PyData.strOk (S w)&&PyData.canLayAll0 (r.map fun w=>PyData.str (S w)))=true
   rw[alb,h1]
   rfl
  ·show max 0 (PyData.depthAll (r.map fun w=>PyData.str (S w)))=0
   rw[h2]
   rfl
theorem aeJ(ws:List Rung.Bytes):SeqAt.shaped (.list (ws.map fun w=>PyData.str (S w)))=true:=by
 obtain⟨h1,h2⟩:=YG ws
 show(PyData.canLayAll0 (ws.map fun w=>PyData.str (S w))&&decide (PyData.depthAll (ws.map fun w=>PyData.str (S w))+1≤64))=true
 rw[h1,h2]
 decide
def oE(ws:List Rung.Bytes):Bool:=decide (ws=[])||decide (ws=[Rung.ascii "up"])||decide (ws=[Rung.ascii "down"])||decide (ws=[Rung.ascii "up",Rung.ascii "down"])
def dels:List PyData:=[.list [],.list [.str "up"],.list [.str "down"],.list [.str "up",.str "down"]]
theorem Ao(w:Rung.Bytes):PyData.eqv (.str "up") (.str (S w))=decide (w=Rung.ascii "up"):=by
 show(("up":Str)==S w)=_
 rw[Bool.eq_iff_iff,beq_iff_eq,decide_eq_true_eq,←ak_]
 exact⟨fun e=>e.symm,fun e=>e.symm⟩
theorem zG(w:Rung.Bytes):PyData.eqv (.str "down") (.str (S w))=decide (w=Rung.ascii "down"):=by
 show(("down":Str)==S w)=_
 rw[Bool.eq_iff_iff,beq_iff_eq,decide_eq_true_eq,←aj0]
 exact⟨fun e=>e.symm,fun e=>e.symm⟩
theorem ahK(ws:List Rung.Bytes):(dels.any fun e=>PyData.eqv e (.list (ws.map fun w=>PyData.str (S w))))=oE ws:=by
 unfold dels oE
 match ws with
 | []=>simp[PyData.eqv,PyData.eqvAll]
 | [w]=>
   simp only[List.any_cons,List.any_nil,List.map_cons,List.map_nil,PyData.eqv,PyData.eqvAll,Ao,zG,Bool.false_or,Bool.and_true,Bool.or_false,Bool.and_false,reduceCtorEq,decide_false,List.cons.injEq,and_true,and_false]
   have e1:=Ao w
   have e2:=zG w
   simp only[PyData.eqv] at e1 e2
   rw[e1,e2]
 | [w,z]=>
   have e1:=Ao w
   have e2:=zG w
   have e3:=Ao z
   have e4:=zG z
   simp only[PyData.eqv] at e1 e2 e3 e4
   simp only[List.any_cons,List.any_nil,List.map_cons,List.map_nil,PyData.eqv,PyData.eqvAll,e1,e2,e3,e4,Bool.false_or,Bool.and_true,Bool.or_false,Bool.and_false,reduceCtorEq,decide_false,List.cons.injEq,and_true,and_false,Bool.decide_and]
 |w::z::y::r=>simp[PyData.eqv,PyData.eqvAll]
theorem agP(zs:List Rung.Bytes):(Rung.delays zs).isSome=(oE (bV zs)&&(decide ((bV (zs.drop 1)).length=(bV zs).length)&&(bV (zs.drop 1)).all fun n=>(Rung.number 1 65535 n).isSome)):=by
 have nud:Rung.ascii "up"≠Rung.ascii "down":=by decide+kernel
 match zs with
 | []=>simp[Rung.delays,bV,oE]
 | [w]=>simp[Rung.delays,bV]
 | [w,n]=>
   simp only[Rung.delays,bV,oE,List.drop_succ_cons,List.drop_zero,List.length_cons,List.length_nil,List.all_cons,List.all_nil,Bool.and_true,reduceCtorEq,decide_false,Bool.false_or,List.cons.injEq,and_true,and_false,Bool.or_false,decide_true,Bool.true_and]
   by_cases h1:w=Rung.ascii "up"
   ·simp[h1]
   ·by_cases h2:w=Rung.ascii "down"
    ·simp[h2,Ne.symm nud]
    ·simp[h1,h2]
 | [w,n,z]=>simp[Rung.delays,bV]
 | [w,n,z,m]=>
   simp only[Rung.delays,bV,oE,List.drop_succ_cons,List.drop_zero,List.length_cons,List.length_nil,List.all_cons,List.all_nil,Bool.and_true,reduceCtorEq,decide_false,Bool.false_or,List.cons.injEq,and_true,and_false,Bool.or_false,decide_true,Bool.true_and]
   by_cases h1:w=Rung.ascii "up"∧z=Rung.ascii "down"
   ·simp only[h1,and_self,if_true,decide_true,Bool.true_and]
    cases Rung.number 1 65535 n<;>cases Rung.number 1 65535 m<;>rfl
   ·simp[h1]
 |w::n::z::m::y::r=>
  have e:bV (w::n::z::m::y::r)=w::z::bV (y::r):=by simp[bV]
  have ne:bV (y::r)≠[]:=fun q=>by
   have:=congrArg List.length q
   rw[qG] at this
   simp only[List.length_cons,List.length_nil] at this
   omega
  cases q:bV (y::r) with
  |nil=>exact absurd q ne
  |cons u v=>
   rw[e,q]
   cases r<;>simp[Rung.delays,oE]
section
variable{K:PySem.W.Frag}{mg:Str→Option Value}{A:Ad}
theorem adX(T:Tx K mg A)(vs:List V)(H:Hp)(Q:VK)(E:XK)(h:Gy vs H Q E):GD K A {nx:=fun _ H'=>Q .non H',rt:=Q} (L2.start ["parts","words","ticks","part"] vs) H:=by
 obtain⟨a,zs,rfl,hs,q⟩:=h
 show GD K A _ [some (.ref a),none,none,none] H
 refine⟨_,rfl,_,rfl,a,_,0,rfl,eV hs (Same.refl H),rfl,rfl,fun p hp=>?_⟩
 rw[List.drop_zero,Jr]
 have s1:Same H (upd H p (.lst ((bV zs).map vS))):=bI hp
 show Rj K A _ [some (.ref a),some (.ref p),none,none] _
 refine⟨_,rfl,_,rfl,a,_,1,rfl,eV hs s1,rfl,rfl,fun p2 hp2=>?_⟩
 rw[←List.map_drop,Jr]
 show Fl K A _ [some (.ref a),some (.ref p),some (.ref p2),none] _
 generalize hH2:upd (upd H p (.lst ((bV zs).map vS))) p2 (.lst ((bV (zs.drop 1)).map vS))=H2
 have s2:Same H H2:=by rw[←hH2];exact cC s1 (s1.free hp2)
 have f1:H2 p=some (.lst ((bV zs).map vS)):=by rw[←hH2,aH (bM aC hp2),aC]
 have f2:H2 p2=some (.lst ((bV (zs.drop 1)).map vS)):=by rw[←hH2,aC]
 clear hH2
 unfold Fl
 walk_at"rd"
 refine⟨Nat.zero_le _,fun p1 h1=>?_⟩
 obtain⟨Ha,ea,sa,fa⟩:=ab (.lst []) h1
 rw[ea]
 refine⟨len1 _,fun p3 h3=>?_⟩
 obtain⟨Hb,eb,sb,fb⟩:=ab (.lst [V.str "up"]) h3
 rw[eb]
 refine⟨len1 _,fun p4 h4=>?_⟩
 obtain⟨Hc,ec,sc,fc⟩:=ab (.lst [V.str "down"]) h4
 rw[ec]
 refine⟨len2 _ _,fun p5 h5=>?_⟩
 obtain⟨Hd,ed,sd,fd⟩:=ab (.lst [V.str "up",V.str "down"]) h5
 rw[ed]
 refine⟨by show 4≤sizeLine;decide,fun p6 h6=>?_⟩
 obtain⟨He,ee,se,fe⟩:=ab (.tup [V.ref p1,V.ref p3,V.ref p4,V.ref p5]) h6
 rw[ee]
 have sde:=sd.trans se
 have sce:=sc.trans sde
 have sbe:=sb.trans sce
 have CK:=sa.trans sbe
 have s3:=s2.trans CK
 refine⟨_,dels,.lst (au.of (CK _ _ f1)) (ZD K He (bV zs)),.tup (bK.of fe) (.cons (.lst (au.of (sbe _ _ fa)) .nil) (.cons (.lst (au.of (sce _ _ fb)) (.cons (.str _) .nil)) (.cons (.lst (au.of (sde _ _ fc)) (.cons (.str _) .nil)) (.cons (.lst (au.of (se _ _ fd)) (.cons (.str _) (.cons (.str _) .nil))) .nil)))),aeJ _,by decide+kernel,_,rfl,?_⟩
 rw[ahK]
 have dq:=agP zs
 have g1:=CK _ _ f1
 have g2:=CK _ _ f2
 cases hw:oE (bV zs) with
 |false=>
  rw[if_pos (by rfl)]
  exact q _ He s3 (by rw[dq,hw];rfl)
 |true=>
  rw[if_neg (by simp)]
  refine⟨_,.inl (au.of g2),_,.inl (au.of g1),?_⟩
  rw[List.length_map,List.length_map]
  by_cases hl:(bV (zs.drop 1)).length=(bV zs).length
  ·rw[decide_eq_true (by omega),if_neg (by simp)]
   unfold Ri
   walk_at"rd"
   refine⟨_,rfl,p2,rfl,⟨_,au.of g2⟩,fun D hD=>?_⟩
   refine lF (fun _=>true) (fun j y _=>y= .bl (Rung.number 1 65535 ((bV (zs.drop 1)).getD j [])).isSome) hD (au.of g2) (fun i c' Hc hi sm Qt h=>h Hc (Same.refl _)) (fun i x Hc hi _ sm Qe h=>?_) (fun _ _ _ _ _ p=>p) ?_ ?_
   ·rw[List.getElem?_map] at hi
    obtain⟨w,hw',rfl⟩:=Option.map_eq_some_iff.mp hi
    have hg:(bV (zs.drop 1)).getD i []=w:=by rw[List.getD_eq_getElem?_getD,hw'];rfl
    have hm:w∈zs:=by
     have e:=Jc (zs.drop 1) i
     rw[hw'] at e
     exact List.mem_of_mem_drop (List.mem_of_getElem? e.symm)
    exact⟨_,rfl,w,1,65535,rfl,hs.2.2 w hm,by decide,h _ Hc (Same.refl _) (by rw[hg])⟩
   ·rw[List.length_map,qG,List.length_drop]
    have:=hs.2.1
    rw[sizeLine_eq]
    omega
   ·intro ys H' sm hy pr
    have ey:=Tr pr
    refine⟨D,rfl,_,.inl (.inl (by rw[←ey];exact hy)),q _ H' (s3.trans sm) ?_⟩
    rw[dq,hw,decide_eq_true hl,List.length_map]
    have e:=GR (fun n=>(Rung.number 1 65535 n).isSome) (bV (zs.drop 1)) []
    rw[e]
    simp only[List.all_map,Bool.true_and,Function.comp_def,id]
  ·rw[decide_eq_false (by omega),if_pos rfl]
   exact q _ He s3 (by rw[dq,decide_eq_false hl];simp)
end
theorem filter_all{α:Type}(l:List α):l.filter (fun _=>true)=l:=List.filter_eq_self.mpr fun _ _=>rfl
theorem lB{α:Type}{g:α→V}:∀{l:List α} {ys:List V},Paired (fun j y=>y=g j) l ys→ys=l.map g
 |_,_,.nil=>rfl
 |_,_,.cons p q=>by rw[p,lB q];rfl
theorem tU{α β:Type}{F:V→β→Prop}{g:α→β}:∀{l:List α} {ys:List V},Paired (fun j y=>F y (g j)) l ys→Paired F ys (l.map g)
 |_,_,.nil=>.nil
 |_,_,.cons p q=>.cons p (tU q)
theorem range_getD{α β:Type}(f:α→β):∀(l:List α) (d:α),(List.range l.length).map (fun i=>f (l.getD i d))=l.map f
 | [],_=>rfl
 |a::r,d=>by
  rw[List.length_cons,List.range_succ_eq_map,List.map_cons,List.map_map,List.map_cons]
  have e:((fun i=>f ((a::r).getD i d))∘Nat.succ)=fun i=>f (r.getD i d):=rfl
  rw[e,range_getD f r d]
  rfl
theorem agQ{α:Type}{l:List α}{x:α}(h:x∈l.dropLast):x∈l:=by
 rw[List.dropLast_eq_take] at h
 exact List.mem_of_mem_take h
theorem getD_some{α:Type}{l:List α}{i:Nat}{x d:α}(h:l[i]? =some x):l.getD i d=x:=by rw[List.getD_eq_getElem?_getD,h];rfl
theorem ahL(t:Rung.Bytes):(((t.map fun c=>(⟨#[sgn c]⟩:Str))).map (·.length)).sum=t.length:=by
 rw[List.map_map]
 have:∀l:Rung.Bytes,(l.map ((fun(x:Str)=>x.length)∘fun c=>(⟨#[sgn c]⟩:Str))).sum=l.length:=by
  intro l
  induction l with
  |nil=>rfl
  |cons c r ih=>rw[List.map_cons,List.sum_cons,ih,List.length_cons];show 1+_=_;omega
 exact this t
section
variable{K:PySem.W.Frag}{mg:Str→Option Value}{A:Ad}
theorem aeK(T:Tx K mg A)(vs:List V)(H:Hp)(Q:VK)(E:XK)(h:Hl K A vs H Q E):yr K A {nx:=fun _ H'=>Q .non H',rt:=Q} (L2.start ["text","lines","byte","rows","line"] vs) H:=by
 obtain⟨a,t,rfl,hS,hl,q⟩:=h
 have hl':t.length≤20000:=hl
 show yr K A _ [some (.ref a),none,none,none,none] H
 unfold yr
 walk_at"rd"
 refine⟨_,rfl,a,rfl,⟨_,hS⟩,fun D hD=>?_⟩
 refine lF (fun _=>true) (fun j y _=>y= .str ⟨#[sgn (t.getD j 0)]⟩) hD hS (fun i c' Hc hi sm Qt h=>h Hc (Same.refl _)) (fun i x Hc hi _ sm Qe h=>?_) (fun _ _ _ _ _ p=>p) ?_ ?_
 ·unfold kJ at hi
  rw[List.getElem?_map] at hi
  obtain⟨c,hc,rfl⟩:=Option.map_eq_some_iff.mp hi
  exact⟨_,rfl,c,rfl,h _ Hc (Same.refl _) (by rw[getD_some hc])⟩
 ·unfold kJ
  rw[List.length_map,sizeLine_eq]
  omega
 ·intro ys H1 s1 hy pr
  rw[filter_all] at pr
  have ey:=lB pr
  have hlen:(kJ t).length=t.length:=by unfold kJ;rw[List.length_map]
  rw[hlen,range_getD (fun c=>V.str ⟨#[sgn c]⟩) t 0] at ey
  refine⟨D,rfl,(t.map fun c=>(⟨#[sgn c]⟩:Str)),.inl (.inl (.inl ?_)),?_,by decide+kernel,?_,?_⟩
  ·rw[hy,ey,List.map_map]
   rfl
  ·rw[ahL]
   have:(Str.ofString "").length=0:=by decide+kernel
   rw[this]
   omega
  ·rw[aak,jt,sizeLine_eq]
   omega
  ·intro p hp
   rw[aak,agL,List.map_map]
   obtain⟨Ha,ea,sa,fa⟩:=ab (.lst ((Rung.split 10 t).map vS)) hp
   show Sy K A _ [some (.ref a),some (.ref p),none,none,none] (upd H1 p (.lst ((Rung.split 10 t).map vS)))
   rw[ea]
   have sHa:=s1.trans sa
   obtain⟨l1,l2⟩:=split_len 10 t
   have rq:=aiR t
   refine⟨_,rfl,1,rfl,(-1:Int),rfl,p,_,rfl,au.of fa,fun p2 hp2=>⟨p2,rfl,⟨_,au.of aC⟩,fun D2 hD2=>?_⟩⟩
   rw[YF,←List.map_dropLast]
   obtain⟨Hb,eb,sb,fb⟩:=ab (.lst ((Rung.split 10 t).dropLast.map vS)) hp2
   rw[YF,←List.map_dropLast] at hD2
   rw[eb] at hD2⊢
   have CN:=sHa.trans sb
   refine lF (fun _=>true) (fun j y G=>dO A.row G y (Rung.lineIn ((Rung.split 10 t).dropLast.getD j []))) hD2 (au.of fb) (fun i c' Hc hi sm Qt h=>h Hc (Same.refl _)) (fun i x Hc hi _ sm Qe h=>?_) (fun _ _ _ _ s p=>p.mono s) ?_ ?_
   ·rw[List.getElem?_map] at hi
    obtain⟨b,hb,rfl⟩:=Option.map_eq_some_iff.mp hi
    refine⟨_,rfl,b,rfl,Nat.le_trans (l2 b (agQ (List.mem_of_getElem? hb))) hl,fun v H4 s4 r4=>h v H4 s4 ?_⟩
    rw[getD_some hb]
    exact r4
   ·rw[List.length_map,List.length_dropLast,sizeLine_eq]
    omega
   ·intro ys2 H2 s2 hy2 gF
    rw[filter_all,List.length_map] at gF
    have lg:=tU (F:=dO A.row (nw (upd Hb D2 (.lst [])) H2)) gF
    rw[range_getD Rung.lineIn (Rung.split 10 t).dropLast []] at lg
    show FZ K A _ [some (.ref a),some (.ref p),none,some (.ref D2),none] H2
    have sH2:=CN.trans s2
    have vm:H D2=none:=CN.free hD2
    have g1:=(sb.trans s2) _ _ fa
    have alc:ys2.length=(Rung.split 10 t).length - 1:=by
     have:=d9 lg
     rw[List.length_map,List.length_dropLast] at this
     exact this
    obtain⟨m,z,em⟩:∃m z,Rung.split 10 t=m++[z]:=⟨(Rung.split 10 t).dropLast,(Rung.split 10 t).getLast (lH 10 t),(List.dropLast_concat_getLast _).symm⟩
    unfold FZ Sx
    walk_at"rd"
    refine⟨_,au.of g1,vS z,by rw[em,List.map_append];exact zx _ _,rfl,?_⟩
    have keep:∀l,Same (nw (upd Hb D2 (.lst [])) H2) (nw H (upd H2 D2 (.lst l))):=fun l b o e=>by
     obtain⟨e1,e2⟩:=cu e
     have hb:b≠D2:=fun w=>by rw[w,aC] at e1;cases e1
     rw[aH hb] at e1
     exact bO (CN.free e1) (by rw[aH hb];exact e2)
    have akI:Same (nw (upd Hb D2 (.lst [])) H2) (nw H H2):=fun b o e=>by
     obtain⟨e1,e2⟩:=cu e
     have hb:b≠D2:=fun w=>by rw[w,aC] at e1;cases e1
     rw[aH hb] at e1
     exact bO (CN.free e1) e2
    have last:(Rung.split 10 t).getLast?=some z:=by rw[em];simp
    rw[last] at rq
    by_cases hz:z=[]
    ·rw[if_neg (by simp[hz,aaz])]
     rw[if_pos (by rw[hz]),List.append_nil] at rq
     refine q _ H2 sH2 ⟨D2,rfl,ys2,bO vm hy2,?_,?_⟩
     ·rw[rq]
      exact Paired.dY lg fun v o r=>r.mono akI
     ·rw[rq,List.length_map,List.length_dropLast]
      omega
    ·rw[if_pos (by simp[aaz,hz])]
     rw[if_neg (fun w=>hz (Option.some.inj w))] at rq
     refine⟨.inl ⟨ys2,au.of hy2⟩,ys2,hy2,by rw[alc,sizeLine_eq];omega,?_⟩
     refine q _ _ (cC sH2 vm) ⟨D2,rfl,ys2++[.non],bO vm aC,?_,?_⟩
     ·rw[rq]
      exact qx (Paired.dY lg fun v o r=>r.mono (keep _)) (.cons rfl .nil)
     ·rw[rq,List.length_append,List.length_map,List.length_dropLast]
      simp only[List.length_cons,List.length_nil]
      omega
end
def mJ:Option Nat→V
 |some k=>.int (k:Int)
 |none=>.non
def jk(p:List Rung.Line)(k:Nat)(l:Rung.Line):Bool:=(p.take k).any fun(m:Rung.Line)=>decide (l.sort<m.sort)
def j_(p:List Rung.Line)(k:Nat)(l:Rung.Line):Bool:=decide (Rung.mostOf l.sort≤((p.take k).filter fun(m:Rung.Line)=>m.sort==l.sort).length)
def fU(p:List Rung.Line)(k:Nat)(l:Rung.Line):Bool:=l.gives.isSome&&(p.take k).any fun(m:Rung.Line)=>m.gives==l.gives
def h_(p:List Rung.Line)(_:Nat)(l:Rung.Line):Bool:=match l with
 | .contact _ x _ _=>(Rung.varOf p x).isNone
 |_=>false
theorem oU(p:List Rung.Line):Rung.faultIn p=match Rung.firstLine p (jk p) with
 |some k=>some (2,k)
 |none=>match Rung.firstLine p (j_ p) with
  |some k=>some (3,k)
  |none=>match Rung.firstLine p (fU p) with
   |some k=>some (4,k)
   |none=>(Rung.firstLine p (h_ p)).map fun(k:Nat)=>(5,k):=rfl
def uH(p:List Rung.Line):Prop:=∀l∈p,Rung.isName (nameOf l)=true
def kh(C:Addr)(H:Hp)(a:Addr)(p:List Rung.Line):Prop:=nU C H a (p.map some)∧uH p
def wG(A:Ad):Sp:=fun vs H Q _=>∃(a:Addr) (os:List (Option Rung.Line)),vs=[.ref a]∧nU A.row H a os∧cQ H Q fun v _=>v=mJ (os.findIdx? Option.isNone)
def yu(A:Ad):Sp:=fun vs H Q _=>∃(a:Addr) (p:List Rung.Line),vs=[.ref a]∧kh A.row H a p∧cQ H Q fun v _=>v=mJ (Rung.firstLine p (jk p))
def wZ(A:Ad):Sp:=fun vs H Q _=>∃(a:Addr) (p:List Rung.Line),vs=[.ref a]∧kh A.row H a p∧cQ H Q fun v _=>v=mJ (Rung.firstLine p (j_ p))
def wK(A:Ad):Sp:=fun vs H Q _=>∃(a:Addr) (p:List Rung.Line),vs=[.ref a]∧kh A.row H a p∧cQ H Q fun v _=>v=mJ (Rung.firstLine p (fU p))
def w6(A:Ad):Sp:=fun vs H Q _=>∃(a:Addr) (p:List Rung.Line),vs=[.ref a]∧kh A.row H a p∧Rung.firstLine p (jk p)=none∧cQ H Q fun v _=>v=mJ (Rung.firstLine p (h_ p))
def eF(os:List (Option Rung.Line)):Nat×Nat:=match Rung.all os 0 with
 | .error k=>(1,k)
 | .ok p=>match Rung.faultIn p with
   |some f=>f
   |none=>(0,0)
def aj1(C:Addr)(H:Hp)(a:Addr)(os:List (Option Rung.Line)):Prop:=nU C H a os∧∀l,some l∈os→Rung.isName (nameOf l)=true
def Gs(A:Ad):Sp:=fun vs H Q _=>∃(a:Addr) (os:List (Option Rung.Line)),vs=[.ref a]∧aj1 A.row H a os∧cQ H Q fun v G=>∃r,v= .ref r∧G r=some (.lst [.int (eF os).1,.int (eF os).2])
theorem find_none{p:List Rung.Line}{bad:Nat→Rung.Line→Bool}(h:∀(j:Nat) (l:Rung.Line),p[j]? =some l→bad j l=false):Rung.firstLine p bad=none:=by
 unfold Rung.firstLine
 rw[List.findSome?_eq_none_iff]
 rintro⟨l,j⟩ hm
 have hj:=List.mem_zipIdx_iff_getElem?.mp hm
 simp only at hj
 rw[if_neg]
 rw[h j l hj]
 simp
theorem Rn{α β:Type}(f:α→Option β):∀(l m:List α),(∀x∈l,f x=none)→(l++m).findSome? f=m.findSome? f
 | [],_,_=>rfl
 |x::r,m,h=>by
  rw[List.cons_append,List.findSome?_cons,h x (List.mem_cons_self ..)]
  exact Rn f r m fun y hy=>h y (List.mem_cons_of_mem _ hy)
theorem find_some{p:List Rung.Line}{bad:Nat→Rung.Line→Bool}{i:Nat}{l:Rung.Line}(hi:p[i]? =some l)(hb:bad i l=true)(h:∀(j:Nat) (m:Rung.Line),j<i→p[j]? =some m→bad j m=false):Rung.firstLine p bad=some i:=by
 unfold Rung.firstLine
 have e:p.zipIdx=(p.take i).zipIdx++(l,i)::(p.drop (i+1)).zipIdx (i+1):=by
  obtain⟨hlt,hl⟩:=List.getElem?_eq_some_iff.mp hi
  have e1:p=p.take i++l::p.drop (i+1):=by
   rw[←hl,List.getElem_cons_drop,List.take_append_drop]
  have e2:(p.take i).length=i:=by rw[List.length_take];omega
  conv=>lhs;rw[e1]
  rw[List.zipIdx_append,List.zipIdx_cons,e2]
  simp
 rw[e,Rn]
 ·rw[List.findSome?_cons]
  simp[hb]
 ·rintro⟨m,j⟩ hm
  have hj:=List.mem_zipIdx_iff_getElem?.mp hm
  simp only at hj
  have hlt:j<i:=by
   have:=(List.getElem?_eq_some_iff.mp hj).1
   rw[List.length_take] at this
   omega
  have hj':p[j]? =some m:=by rw[List.getElem?_take_of_lt hlt] at hj;exact hj
  rw[if_neg]
  rw[h j m hlt hj']
  simp
theorem qQ{K:PySem.W.Frag}{a:Addr}{xs:List V}{i1 i2:Nat}{tb:TS}{D:Ends}{σ:L2.St}{H:Hp}(Pv:Nat→L2.St→Hp→Prop)(h0:Pv 0 σ H)(hl:∀i σ H,i≤xs.length→Pv i σ H→au K H a xs)
 (hs:∀i x σ H0 H1,xs[i]? =some x→Pv i σ H0→Same H0 H1→tb {D with nx:=Pv (i+1),ct:=Pv (i+1),bk:=D.nx} ((σ.set i1 (some (.int (i:Nat)))).set i2 (some x)) H1)(hd:∀σ H,Pv xs.length σ H→D.nx σ H):
 ∃W:Nat→Nat→L2.St→Hp→Prop,(∃m,W 0 m σ H)∧∀i m σ H,W i m σ H→
  ((Ite K a).stop i H∧D.nx σ H)∨((Ite K a).go i H∧∃N:L2.St→Hp→Prop,(∀σ' H',N σ' H'→∃m',m'<m∧W (i+1) m' σ' H')∧∀x H',(Ite K a).fY i H x H'→iB K 2 (dD (aJ i1) (dD (aJ i2) iz)) x σ H' fun σ2 H2=>tb {D with nx:=N,ct:=N,bk:=D.nx} σ2 H2):=by
 refine⟨fun i m σ H=>m=xs.length - i∧i≤xs.length∧Pv i σ H,⟨xs.length,by simp,Nat.zero_le _,h0⟩,?_⟩
 rintro i m σ H ⟨rfl,hi,p⟩
 have q:=hl i σ H hi p
 by_cases hlt:i<xs.length
 ·refine .inr ⟨⟨xs,xs[i],q,by simp[hlt]⟩,Pv (i+1),fun σ' H' p'=>⟨xs.length - (i+1),by omega,rfl,hlt,p'⟩,fun x H' y=>?_⟩
  obtain⟨T,z,rfl,hT,rfl,hz⟩:=y
  exact⟨T,_,rfl,bK.of aC,rfl,_,_,rfl,_,_,rfl,rfl,hs i z σ H _ (hz xs q) p (bI hT)⟩
 ·have e:i=xs.length:=by omega
  subst e
  exact .inl ⟨⟨xs,q,Nat.le_refl _⟩,hd σ H p⟩
def Qh(K:PySem.W.Frag)(A:Ad):TS:=(aL (tC .non))
def Ej(K:PySem.W.Frag)(A:Ad):TS:=(aB (eY (mq K (ak (aj 0) aq)) (iB K 2 (dD (aJ 1) (dD (aJ 2) iz))) (bB (aZ (aG (fun x y H Q=>y= .non∧Q (.bl (decide (x= .non))) H) (aj 2) (tC .non))) (aL (aj 1)) bA)) (Qh K A))
def SJ(K:PySem.W.Frag)(A:Ad):TS:=(aY (aP K (aj 3) "rank") (aJ 1))
def SM(K:PySem.W.Frag)(A:Ad):TS:=(aL (tC .non))
def SN(K:PySem.W.Frag)(A:Ad):TS:=(aB (eY (mq K (ak (aj 0) aq)) (iB K 2 (dD (aJ 2) (dD (aJ 3) iz))) (aB (bB (aZ (aG (bx fun i j=>.bl (decide (i<j))) (aP K (aj 3) "rank") (aj 1))) (aL (aj 2)) bA) (SJ K A))) (SM K A))
def HB(K:PySem.W.Frag)(A:Ad):TS:=(aB (aY (tC (V.int 0)) (aJ 1)) (SN K A))
def QC(K:PySem.W.Frag)(A:Ad):TS:=(bB (aZ (aG (bx fun i j=>.bl (decide (j<i))) (aG (cB K) (aj 1) (aP K (aj 3) "rank")) (aG (NQ K) (tC (.ref A.oR)) (aP K (aj 3) "rank")))) (aL (aj 2)) bA)
def QD(K:PySem.W.Frag)(A:Ad):TS:=(aL (tC .non))
def QF(K:PySem.W.Frag)(A:Ad):TS:=(aB (eY (mq K (ak (aj 0) aq)) (iB K 2 (dD (aJ 2) (dD (aJ 3) iz))) (aB (Ng (aj 1) (aP K (aj 3) "rank") (tC (V.int 1)) (cB K) (Oh fun i j=>i+j) Nm) (QC K A))) (QD K A))
def Fx(K:PySem.W.Frag)(A:Ad):TS:=(aB (aY (bQ (ak (tC (V.int 0)) (ak (tC (V.int 0)) (ak (tC (V.int 0)) (ak (tC (V.int 0)) aq))))) (aJ 1)) (QF K A))
def Qs(K:PySem.W.Frag)(A:Ad):TS:=(jo (aj 1) (aP K (aj 3) "name") (tC (V.bl true)))
def Qu(K:PySem.W.Frag)(A:Ad):TS:=(aL (tC .non))
def Qv(K:PySem.W.Frag)(A:Ad):TS:=(aB (eY (mq K (ak (aj 0) aq)) (iB K 2 (dD (aJ 2) (dD (aJ 3) iz))) (bB (aZ (aG gU (aP K (aj 3) "rank") (tC (V.int 3)))) (aB (bB (tB (vg (aP K (aj 3) "name") (aj 1))) (aL (aj 2)) bA) (Qs K A)) bA)) (Qu K A))
def Fb(K:PySem.W.Frag)(A:Ad):TS:=(aB (aY kj (aJ 1)) (Qv K A))
def Ek(K:PySem.W.Frag)(A:Ad):TS:=(bB (Bm (aZ (aG dh (aP K (aj 3) "rank") (tC (V.int 3)))) (tB (nM (aP K (aj 3) "name") (aj 1)))) (aL (aj 2)) bA)
def QG(K:PySem.W.Frag)(A:Ad):TS:=(aL (tC .non))
def QH(K:PySem.W.Frag)(A:Ad):TS:=(aB (eY (mq K (ak (aj 0) aq)) (iB K 2 (dD (aJ 2) (dD (aJ 3) iz))) (aB (bB (aZ (aG (Cq K false) (aP K (aj 3) "rank") (Bs (ak (tC (V.int 0)) (ak (tC (V.int 1)) aq))))) (jo (aj 1) (aP K (aj 3) "name") (tC (V.bl true))) bA) (Ek K A))) (QG K A))
def Fy(K:PySem.W.Frag)(A:Ad):TS:=(aB (aY kj (aJ 1)) (QH K A))
theorem gH{α β:Type}{F:α→β→Prop}:∀{l:List α} {m:List β} {i:Nat} {x:α},Paired F l m→l[i]? =some x→∃y,m[i]? =some y∧F x y
 |_,_,_,_,.nil,e=>by simp at e
 |_,_,0,_,.cons r _,e=>by simp at e;subst e;exact⟨_,rfl,r⟩
 |_,_,i+1,x,.cons _ t,e=>by
  obtain⟨u,h1,h2⟩:=gH (i:=i) (x:=x) t (by simpa using e)
  exact⟨u,by simpa using h1,h2⟩
theorem afD{α:Type}{f:α→Bool}{l:List α}{i:Nat}{o:α}(hi:l[i]? =some o)(hf:f o=true)(h:∀(j:Nat) (u:α),j<i→l[j]? =some u→f u=false):l.findIdx? f=some i:=by
 obtain⟨hlt,e⟩:=List.getElem?_eq_some_iff.mp hi
 rw[List.findIdx?_eq_some_iff_getElem]
 refine⟨hlt,by rw[e];exact hf,fun j hj=>?_⟩
 have:=h j l[j] hj (List.getElem?_eq_getElem (by omega))
 rw[this]
 simp
theorem afE{α:Type}{f:α→Bool}{l:List α}(h:∀(j:Nat) (u:α),l[j]? =some u→f u=false):l.findIdx? f=none:=by
 rw[List.findIdx?_eq_none_iff]
 intro x hx
 obtain⟨j,hj,e⟩:=List.mem_iff_getElem.mp hx
 exact h j x (by rw[List.getElem?_eq_getElem hj,e])
theorem nU.mono{C:Addr}{H H':Hp}{a:Addr}{os:List (Option Rung.Line)}(h:nU C H a os)(s:Same H H'):nU C H' a os:=by
 obtain⟨vs,h1,h2,h3⟩:=h
 exact⟨vs,s _ _ h1,Paired.dY h2 fun v o r=>r.mono s,h3⟩
def aiS(a:Addr)(os:List (Option Rung.Line))(H:Hp):Nat→L2.St→Hp→Prop:=fun i σ H'=>(∃l r,σ=[some (.ref a),l,r])∧Same H H'∧∀(j:Nat) (o:Option Rung.Line),j<i→os[j]? =some o→o.isNone=false
def aj2(a:Addr)(p:List Rung.Line)(H:Hp):Nat→L2.St→Hp→Prop:=fun i σ H'=>∃(m:Nat) (l r:Option V),σ=[some (.ref a),some (.int m),l,r]∧Same H H'∧(∀(j:Nat) (u:Rung.Line),j<i→p[j]? =some u→jk p j u=false)∧(∀u∈p.take i,u.sort≤m)∧(m=0∨∃u∈p.take i,u.sort=m)
section
variable{K:PySem.W.Frag}{mg:Str→Option Value}{A:Ad}
theorem acg(T:Tx K mg A)(vs:List V)(H:Hp)(Q:VK)(E:XK)(h:wG A vs H Q E):Ej K A {nx:=fun _ H'=>Q .non H',rt:=Q} (L2.start ["rows","line","row"] vs) H:=by
 obtain⟨a,os,rfl,⟨xs,hx,pr,hle⟩,q⟩:=h
 show Ej K A _ [some (.ref a),none,none] H
 have hlen:=d9 pr
 refine⟨_,rfl,a,xs,rfl,au.of hx,qQ (aiS a os H)
  ⟨⟨none,none,rfl⟩,Same.refl H,fun j o hj=>absurd hj (Nat.not_lt_zero j)⟩ (fun i σ H' _ p=>au.of (p.2.1 _ _ hx)) ?_ ?_⟩
 ·rintro i x σ H0 H1 hi ⟨⟨l,r,rfl⟩,s0,hb⟩ s1
  obtain⟨o,ho,hr⟩:=gH pr hi
  walk_at"rd"
  cases o with
  |none=>
   have hx':x= .non:=hr
   rw[if_pos hx']
   exact q _ H1 (s0.trans s1) (by rw[afD (i:=i) ho rfl fun j u hj hu=>hb j u hj hu];rfl)
  |some l'=>
   obtain⟨b,dx,n,rfl,_⟩:=hr
   rw[if_neg (by simp)]
   refine⟨⟨_,_,rfl⟩,s0.trans s1,fun j u hj hu=>?_⟩
   by_cases e:j=i
   ·subst e
    rw[ho] at hu
    cases hu
    rfl
   ·exact hb j u (by omega) hu
 ·rintro σ H1 ⟨⟨l,r,rfl⟩,s1,hb⟩
  simp only[Qh]
  walk_at"rd"
  refine q _ H1 s1 ?_
  rw[afE fun j u hu=>hb j u ?_ hu]
  ·rfl
  ·rw[hlen]
   exact(List.getElem?_eq_some_iff.mp hu).1
theorem kh.at{C:Addr}{H:Hp}{p:List Rung.Line}{xs:List V}(hp:Paired (dO C H) xs (p.map some)){i:Nat}{x:V}(hi:xs[i]? =some x):∃l,p[i]? =some l∧pN C H x l:=by
 obtain⟨o,ho,hr⟩:=gH hp hi
 rw[List.getElem?_map] at ho
 obtain⟨l,hl,rfl⟩:=Option.map_eq_some_iff.mp ho
 exact⟨l,hl,hr⟩
theorem aeL(T:Tx K mg A)(vs:List V)(H:Hp)(Q:VK)(E:XK)(h:yu A vs H Q E):HB K A {nx:=fun _ H'=>Q .non H',rt:=Q} (L2.start ["rows","latest","line","row"] vs) H:=by
 obtain⟨a,p,rfl,⟨⟨xs,hx,pr,hle⟩,_⟩,q⟩:=h
 show HB K A _ [some (.ref a),none,none,none] H
 have hlen:=d9 pr
 rw[List.length_map] at hlen
 show SN K A _ [some (.ref a),some (.int 0),none,none] H
 refine⟨_,rfl,a,xs,rfl,au.of hx,qQ (aj2 a p H)
  ⟨0,none,none,rfl,Same.refl H,fun j o hj=>absurd hj (Nat.not_lt_zero j),by simp,.inl rfl⟩ (fun i σ H' _ ⟨_,_,_,_,s,_⟩=>au.of (s _ _ hx)) ?_ ?_⟩
 ·rintro i x σ H0 H1 hi ⟨m,l,r,rfl,s0,hb,hm,hm2⟩ s1
  obtain⟨u,hu,b,dx,n,rfl,hbx,hn⟩:=kh.at pr hi
  have s01:=s0.trans s1
  have hb1:=s01 _ _ hbx
  walk_at"rd"
  refine⟨_,_,_,hb1,T.eU,T.gZ,_,jJ _ _ _ _,_,rfl,?_⟩
  have late:jk p i u=decide (u.sort<m):=by
   unfold jk
   rw[Bool.eq_iff_iff,List.any_eq_true,decide_eq_true_eq]
   constructor
   ·rintro⟨w,hw,e⟩
    have:=hm w hw
    have:=of_decide_eq_true e
    omega
   ·intro e
    rcases hm2 with z|⟨w,hw,e2⟩
    ·omega
    ·exact⟨w,hw,decide_eq_true (by omega)⟩
  by_cases hc:u.sort<m
  ·rw[if_pos (by omega)]
   exact q _ H1 s01 (by rw[find_some hu (by rw[late];exact decide_eq_true hc) hb];rfl)
  ·rw[if_neg (by omega)]
   unfold SJ
   walk_at"rd"
   refine⟨_,_,_,hb1,T.eU,T.gZ,_,jJ _ _ _ _,u.sort,_,_,rfl,s01,fun j w hj hw=>?_,?_,?_⟩
   ·by_cases e:j=i
    ·subst e
     rw[hu] at hw
     cases hw
     rw[late]
     exact decide_eq_false hc
    ·exact hb j w (by omega) hw
   ·intro w hw
    rw[List.take_succ,hu] at hw
    rcases List.mem_append.mp hw with z|z
    ·have:=hm w z
     omega
    ·simp at z
     rw[z]
     omega
   ·refine .inr ⟨u,?_,rfl⟩
    rw[List.take_succ,hu]
    simp
 ·rintro σ H1 ⟨m,l,r,rfl,s1,hb,_⟩
  simp only[SM]
  walk_at"rd"
  refine q _ H1 s1 ?_
  rw[find_none fun j u hu=>hb j u ?_ hu]
  ·rfl
  ·rw[hlen]
   exact(List.getElem?_eq_some_iff.mp hu).1
end
theorem ZF(u:Rung.Line):u.sort<4:=by cases u<;>(simp only[Rung.Line.sort];decide)
def cnt(p:List Rung.Line)(i r:Nat):Nat:=((p.take i).filter fun(m:Rung.Line)=>m.sort==r).length
def cV(p:List Rung.Line)(i:Nat):List V:=[.int (cnt p i 0),.int (cnt p i 1),.int (cnt p i 2),.int (cnt p i 3)]
theorem qR{p:List Rung.Line}{i:Nat}{u:Rung.Line}(hu:p[i]? =some u)(r:Nat):cnt p (i+1) r=cnt p i r+if u.sort=r then 1 else 0:=by
 unfold cnt
 rw[List.take_succ,hu,List.filter_append,List.length_append]
 by_cases h:u.sort=r<;>simp[h]
theorem aaC(p:List Rung.Line)(i r:Nat)(h:r<4):(cV p i)[r]? =some (.int (cnt p i r)):=by
 match r,h with
 |0,_=>rfl
 |1,_=>rfl
 |2,_=>rfl
 |3,_=>rfl
theorem aj3{p:List Rung.Line}{i:Nat}{u:Rung.Line}(hu:p[i]? =some u):(cV p i).set u.sort (.int ((cnt p i u.sort:Int)+1))=cV p (i+1):=by
 have h:=ZF u
 unfold cV
 rw[qR hu 0,qR hu 1,qR hu 2,qR hu 3]
 generalize u.sort=s at *
 match s,h with
 |0,_=>simp
 |1,_=>simp
 |2,_=>simp
 |3,_=>simp
theorem aiT(r:Nat)(h:r<4):([V.int 16,.int 12,.int 16,.int 256]:List V)[r]? =some (.int (Rung.mostOf r)):=by
 match r,h with
 |0,_=>rfl
 |1,_=>rfl
 |2,_=>rfl
 |3,_=>rfl
theorem aiU{n k:Nat}(h:k<n):jU n (k:Int)=some k:=by
 unfold jU
 rw[if_pos (by omega),if_pos (by omega)]
 simp
def aj4(a L:Addr)(p:List Rung.Line)(H:Hp):Nat→L2.St→Hp→Prop:=fun i σ H'=>∃(l r:Option V),σ=[some (.ref a),some (.ref L),l,r]∧Same H H'∧H' L=some (.lst (cV p i))∧∀(j:Nat) (u:Rung.Line),j<i→p[j]? =some u→j_ p j u=false
section
variable{K:PySem.W.Frag}{mg:Str→Option Value}{A:Ad}
theorem ac0(T:Tx K mg A)(vs:List V)(H:Hp)(Q:VK)(E:XK)(h:wZ A vs H Q E):Fx K A {nx:=fun _ H'=>Q .non H',rt:=Q} (L2.start ["rows","counts","line","row"] vs) H:=by
 obtain⟨a,p,rfl,⟨⟨xs,hx,pr,hle⟩,_⟩,q⟩:=h
 show Fx K A _ [some (.ref a),none,none,none] H
 have hlen:=d9 pr
 rw[List.length_map] at hlen
 refine⟨by show 4≤sizeLine;decide,fun L hL=>?_⟩
 show QF K A _ [some (.ref a),some (.ref L),none,none] (upd H L (.lst (cV p 0)))
 have vM:(upd H L (.lst (cV p 0))) a=some (.lst xs):=bI hL _ _ hx
 refine⟨_,rfl,a,xs,rfl,au.of vM,qQ (aj4 a L p H) ⟨none,none,rfl,bI hL,aC,fun j o hj=>absurd hj (Nat.not_lt_zero j)⟩ (fun i σ H' _ ⟨_,_,_,s,_⟩=>au.of (s _ _ hx)) ?_ ?_⟩
 ·rintro i x σ H0 H1 hi ⟨l,r,rfl,s0,hc,hb⟩ s1
  obtain⟨u,hu,b,dx,n,rfl,hbx,hn⟩:=kh.at pr hi
  have s01:=s0.trans s1
  have hb1:=s01 _ _ hbx
  have hc1:=s1 _ _ hc
  have h4:=ZF u
  walk_at"rd"
  simp only[hb1,T.eU,T.gZ,jJ,Option.some.injEq,HO.ins.injEq,exists_and_left,exists_eq_left',true_and,and_assoc,V.int.injEq]
  refine⟨_,au.of hc1,_,j9 (aaC p i u.sort h4),_,rfl,_,hc1,_,aiU h4,?_⟩
  rw[aj3 hu]
  have Ol:b≠L:=fun z=>by rw[z,hc1] at hb1;cases hb1
  have s2:Same H (upd H1 L (.lst (cV p (i+1)))):=cC s01 hL
  have hb2:(upd H1 L (.lst (cV p (i+1)))) b=some (.ins A.row dx (pH u.sort (nameOf u) n (zE u))):=by rw[aH Ol];exact hb1
  unfold QC
  walk_at"rd"
  simp only[hb2,T.eU,T.gZ,jJ,Option.some.injEq,HO.ins.injEq,exists_and_left,exists_eq_left',true_and,and_assoc,V.int.injEq]
  refine⟨_,au.of aC,_,j9 (aaC p (i+1) u.sort h4),_,T.Gf _,_,j9 (aiT u.sort h4),_,rfl,_,rfl,?_⟩
  have many:j_ p i u=decide (Rung.mostOf u.sort<cnt p (i+1) u.sort):=by
   unfold j_
   rw[qR hu,if_pos rfl]
   have:decide (Rung.mostOf u.sort≤cnt p i u.sort)=decide (Rung.mostOf u.sort<cnt p i u.sort+1):=by
    congr 1
    rw[Nat.lt_succ_iff]
   exact this
  by_cases hc:Rung.mostOf u.sort<cnt p (i+1) u.sort
  ·rw[if_pos (by omega)]
   exact q _ _ s2 (by rw[find_some hu (by rw[many];exact decide_eq_true hc) hb];rfl)
  ·rw[if_neg (by omega)]
   refine⟨_,_,rfl,s2,aC,fun j w hj hw=>?_⟩
   by_cases e:j=i
   ·subst e
    rw[hu] at hw
    cases hw
    rw[many]
    exact decide_eq_false hc
   ·exact hb j w (by omega) hw
 ·rintro σ H1 ⟨l,r,rfl,s1,hc,hb⟩
  simp only[QD]
  walk_at"rd"
  refine q _ H1 s1 ?_
  rw[find_none fun j u hu=>hb j u ?_ hu]
  ·rfl
  ·rw[hlen]
   exact(List.getElem?_eq_some_iff.mp hu).1
theorem nF(l:Rung.Line):l.gives=if l.sort=3 then none else some (nameOf l):=by cases l<;>rfl
theorem ahM:∀c:UInt8,(Rung.isSmall c||Rung.isDigit c)=true→sgn c=c.toNat:=g_ _ (by decide+kernel)
theorem V7{x:Rung.Name}(h:Rung.isName x=true):∀c∈x,sgn c=c.toNat:=by
 intro c hc
 refine ahM c ?_
 unfold Rung.isName at h
 rw[Bool.and_eq_true] at h
 cases x with
 |nil=>simp at hc
 |cons d r=>
  obtain⟨_,h⟩:=h
  simp only[Bool.and_eq_true] at h
  rcases List.mem_cons.mp hc with rfl|hm
  ·rw[h.1]
   rfl
  ·exact List.all_eq_true.mp h.2 c hm
theorem Vi:∀{x y:List UInt8},x.map UInt8.toNat=y.map UInt8.toNat→x=y
 | [],[],_=>rfl
 | [],_::_,h=>by simp at h
 |_::_,[],h=>by simp at h
 |a::x,b::y,h=>by
  simp only[List.map_cons,List.cons.injEq] at h
  rw[UInt8.toNat_inj.mp h.1,Vi h.2]
theorem akJ{x y:Rung.Name}(hx:Rung.isName x=true)(hy:Rung.isName y=true)(h:S x=S y):x=y:=by
 have e:x.map sgn=y.map sgn:=by rw[←jR,←jR,h]
 rw[List.map_congr_left (V7 hx),List.map_congr_left (V7 hy)] at e
 exact Vi e
def kN(x:Rung.Name):Key:=Sum.inr (S x)
theorem Aq{x y:Rung.Name}(hx:Rung.isName x=true)(hy:Rung.isName y=true):kN x=kN y↔x=y:=⟨fun h=>akJ hx hy (Sum.inr.inj h),fun h=>by rw[h]⟩
def aiV(a L:Addr)(p:List Rung.Line)(H:Hp):Nat→L2.St→Hp→Prop:=fun i σ H'=>∃(l r:Option V) (kvs:List (Key×V)),σ=[some (.ref a),some (.ref L),l,r]∧Same H H'∧H' L=some (.dK kvs)∧kvs.length≤i∧
 (∀x,Rung.isName x=true→((aQ kvs (kN x)).isSome=true↔∃m∈p.take i,m.gives=some x))∧∀(j:Nat) (u:Rung.Line),j<i→p[j]? =some u→fU p j u=false
theorem acG(T:Tx K mg A)(vs:List V)(H:Hp)(Q:VK)(E:XK)(h:wK A vs H Q E):Fb K A {nx:=fun _ H'=>Q .non H',rt:=Q} (L2.start ["rows","given","line","row"] vs) H:=by
 obtain⟨a,p,rfl,⟨⟨xs,hx,pr,hle⟩,hnm⟩,q⟩:=h
 show Fb K A _ [some (.ref a),none,none,none] H
 have hlen:=d9 pr
 rw[List.length_map] at hlen hle
 intro L hL
 show Qv K A _ [some (.ref a),some (.ref L),none,none] (upd H L (.dK []))
 have vM:(upd H L (.dK [])) a=some (.lst xs):=bI hL _ _ hx
 refine⟨_,rfl,a,xs,rfl,au.of vM,qQ (aiV a L p H) ⟨none,none,[],rfl,bI hL,aC,Nat.zero_le _,fun x _=>by simp[aQ],fun j o hj=>absurd hj (Nat.not_lt_zero j)⟩ (fun i σ H' _ ⟨_,_,_,_,s,_⟩=>au.of (s _ _ hx)) ?_ ?_⟩
 ·rintro i x σ H0 H1 hi ⟨l,r,kvs,rfl,s0,hc,hkl,hk,hb⟩ s1
  obtain⟨u,hu,b,dx,n,rfl,hbx,hn⟩:=kh.at pr hi
  have s01:=s0.trans s1
  have hb1:=s01 _ _ hbx
  have hc1:=s1 _ _ hc
  have hun:=hnm u (List.mem_of_getElem? hu)
  have hil:i<p.length:=(List.getElem?_eq_some_iff.mp hu).1
  walk_at"rd"
  simp only[hb1,T.eU,T.gZ,T.jH,jJ,nD,Option.some.injEq,HO.ins.injEq,exists_and_left,exists_eq_left',true_and,and_assoc,V.int.injEq,jw]
  have tw:fU p i u=(decide (u.sort≠3)&&(aQ kvs (kN (nameOf u))).isSome):=by
   unfold fU
   rw[nF u]
   by_cases h3:u.sort=3
   ·simp[h3]
   ·simp only[h3,if_false,Option.isSome_some,Bool.true_and,ne_eq,not_false_eq_true,decide_true]
    rw[Bool.eq_iff_iff,List.any_eq_true,hk _ hun]
    simp only[beq_iff_eq]
  have nxt:∀kvs':List (Key×V),(∀y,Rung.isName y=true→((aQ kvs' (kN y)).isSome=true↔(∃m∈p.take i,m.gives=some y)∨u.gives=some y))→∀y,Rung.isName y=true→((aQ kvs' (kN y)).isSome=true↔∃m∈p.take (i+1),m.gives=some y):=fun kvs' h y hy=>by
   rw[h y hy,List.take_succ,hu]
   simp only[Option.toList_some,List.mem_append,List.mem_singleton]
   constructor
   ·rintro(⟨m,hm,e⟩|e)
    ·exact⟨m,.inl hm,e⟩
    ·exact⟨u,.inr rfl,e⟩
   ·rintro⟨m,hm|hm,e⟩
    ·exact .inl ⟨m,hm,e⟩
    ·subst hm
     exact .inr e
  have more:fU p i u=false→∀(j:Nat) (w:Rung.Line),j<i+1→p[j]? =some w→fU p j w=false:=fun h0 j w hj hw=>by
   by_cases e:j=i
   ·subst e
    rw[hu] at hw
    cases hw
    exact h0
   ·exact hb j w (by omega) hw
  by_cases h3:u.sort=3
  ·rw[if_neg (by simp[h3])]
   refine⟨_,_,kvs,rfl,s01,hc1,by omega,nxt kvs fun y hy=>?_,more (by rw[tw];simp[h3])⟩
   rw[hk y hy,nF u,if_pos h3]
   simp
  ·rw[if_pos (by simp;omega)]
   refine⟨_,dG.k (k:=kN (nameOf u)) hc1,?_⟩
   cases hv:aQ kvs (kN (nameOf u)) with
   |some v=>
    rw[if_pos (by rfl)]
    exact q _ H1 s01 (by rw[find_some hu (by rw[tw,hv];simp[h3]) hb];rfl)
   |none=>
    rw[if_neg (by simp)]
    unfold Qs
    walk_at"rd"
    simp only[hb1,T.eU,T.gZ,T.jH,jJ,nD,Option.some.injEq,HO.ins.injEq,exists_and_left,exists_eq_left',true_and,and_assoc,V.int.injEq,jw]
    refine⟨_,jx.k (k:=kN (nameOf u)) hc1 (by rw[sizeLine_eq];omega),_,_,_,rfl,cC s01 hL,aC,?_,nxt _ fun y hy=>?_,more (by rw[tw,hv];simp)⟩
    ·have:=tO kvs (kN (nameOf u)) (.bl true)
     omega
    ·rw[nu,nF u,if_neg h3]
     by_cases e:kN y=kN (nameOf u)
     ·rw[if_pos e,(Aq hy hun).mp e]
      simp
     ·rw[if_neg e,hk y hy]
      have:¬(some (nameOf u)=some y):=fun z=>e (by rw[Option.some.inj z])
      simp[this]
 ·rintro σ H1 ⟨l,r,kvs,rfl,s1,_,_,_,hb⟩
  simp only[Qu]
  walk_at"rd"
  refine q _ H1 s1 ?_
  rw[find_none fun j u hu=>hb j u ?_ hu]
  ·rfl
  ·rw[hlen]
   exact(List.getElem?_eq_some_iff.mp hu).1
theorem afF(p:List Rung.Line)(x:Rung.Name):(Rung.varOf p x).isNone=true↔∀m∈p,(m.sort=0∨m.sort=1)→m.gives≠some x:=by
 unfold Rung.varOf
 cases h0:(p.filter fun(l:Rung.Line)=>l.sort==0).findIdx? fun(l:Rung.Line)=>l.gives==some x with
 |some i=>
  simp only[Option.isNone_some,Bool.false_eq_true,false_iff]
  intro h
  obtain⟨hlt,hp,_⟩:=List.findIdx?_eq_some_iff_getElem.mp h0
  have hm:=List.getElem_mem hlt
  rw[List.mem_filter] at hm
  exact h _ hm.1 (.inl (by simpa using hm.2)) (by simpa using hp)
 |none=>
  have n0:=List.findIdx?_eq_none_iff.mp h0
  simp only[Option.isNone_map]
  cases h1:(p.filter fun(l:Rung.Line)=>l.sort==1).findIdx? fun(l:Rung.Line)=>l.gives==some x with
  |some j=>
   simp only[Option.isNone_some,Bool.false_eq_true,false_iff]
   intro h
   obtain⟨hlt,hp,_⟩:=List.findIdx?_eq_some_iff_getElem.mp h1
   have hm:=List.getElem_mem hlt
   rw[List.mem_filter] at hm
   exact h _ hm.1 (.inr (by simpa using hm.2)) (by simpa using hp)
  |none=>
   have n1:=List.findIdx?_eq_none_iff.mp h1
   simp only[Option.isNone_none,true_iff]
   intro m hm hs e
   rcases hs with z|z
   ·have:=n0 m (List.mem_filter.mpr ⟨hm,by simp[z]⟩)
    simp[e] at this
   ·have:=n1 m (List.mem_filter.mpr ⟨hm,by simp[z]⟩)
    simp[e] at this
theorem agR{p:List Rung.Line}(h:Rung.firstLine p (jk p)=none){i j:Nat}{u w:Rung.Line}(hij:i<j)(hu:p[i]? =some u)(hw:p[j]? =some w):u.sort≤w.sort:=by
 unfold Rung.firstLine at h
 rw[List.findSome?_eq_none_iff] at h
 have:=h (w,j) (List.mem_zipIdx_iff_getElem?.mpr hw)
 simp only at this
 refine Decidable.byContradiction fun z=>?_
 have hb:jk p j w=true:=by
  unfold jk
  refine List.any_eq_true.mpr ⟨u,?_,decide_eq_true (by omega)⟩
  refine List.mem_of_getElem? (i:=i) ?_
  rw[List.getElem?_take_of_lt hij]
  exact hu
 rw[hb] at this
 simp at this
def isVar(l:Rung.Line):Prop:=l.sort=0∨l.sort=1
def aj5(a L:Addr)(p:List Rung.Line)(H:Hp):Nat→L2.St→Hp→Prop:=fun i σ H'=>∃(l r:Option V) (kvs:List (Key×V)),σ=[some (.ref a),some (.ref L),l,r]∧Same H H'∧H' L=some (.dK kvs)∧kvs.length≤i∧
 (∀x,Rung.isName x=true→((aQ kvs (kN x)).isSome=true↔∃m∈p.take i,isVar m∧m.gives=some x))∧∀(j:Nat) (u:Rung.Line),j<i→p[j]? =some u→h_ p j u=false
theorem akK(n:Nat):inV (.int (n:Int)) [.int 0,.int 1]=decide (n=0∨n=1):=by
 simp only[inV,List.any_cons,List.any_nil,k_,Bool.or_false]
 rw[Bool.eq_iff_iff]
 simp only[Bool.or_eq_true,beq_iff_eq,decide_eq_true_eq]
 omega
theorem ac1(T:Tx K mg A)(vs:List V)(H:Hp)(Q:VK)(E:XK)(h:w6 A vs H Q E):Fy K A {nx:=fun _ H'=>Q .non H',rt:=Q} (L2.start ["rows","known","line","row"] vs) H:=by
 obtain⟨a,p,rfl,⟨⟨xs,hx,pr,hle⟩,hnm⟩,aiW,q⟩:=h
 show Fy K A _ [some (.ref a),none,none,none] H
 have hlen:=d9 pr
 rw[List.length_map] at hlen hle
 intro L hL
 show QH K A _ [some (.ref a),some (.ref L),none,none] (upd H L (.dK []))
 have vM:(upd H L (.dK [])) a=some (.lst xs):=bI hL _ _ hx
 refine⟨_,rfl,a,xs,rfl,au.of vM,qQ (aj5 a L p H) ⟨none,none,[],rfl,bI hL,aC,Nat.zero_le _,fun x _=>by simp[aQ],fun j o hj=>absurd hj (Nat.not_lt_zero j)⟩ (fun i σ H' _ ⟨_,_,_,_,s,_⟩=>au.of (s _ _ hx)) ?_ ?_⟩
 ·rintro i x σ H0 H1 hi ⟨l,r,kvs,rfl,s0,hc,hkl,hk,hb⟩ s1
  obtain⟨u,hu,b,dx,n,rfl,hbx,hn⟩:=kh.at pr hi
  have s01:=s0.trans s1
  have hb1:=s01 _ _ hbx
  have hc1:=s1 _ _ hc
  have hun:=hnm u (List.mem_of_getElem? hu)
  have hil:i<p.length:=(List.getElem?_eq_some_iff.mp hu).1
  walk_at"rd"
  simp only[hb1,T.eU,T.gZ,T.jH,jJ,nD,Option.some.injEq,HO.ins.injEq,exists_and_left,exists_eq_left',true_and,and_assoc,V.int.injEq,jw]
  refine⟨len2 _ _,fun t ht=>⟨_,.inr (bK.of aC),rfl,rfl,?_⟩⟩
  simp only[Bool.false_eq_true,if_false,akK,decide_eq_true_eq]
  obtain⟨H2,e2,s12,_⟩:=ab (.tup [.int 0,.int 1]) ht
  rw[e2]
  have s2:=s01.trans s12
  have hb2:=s12 _ _ hb1
  have hc2:=s12 _ _ hc1
  have nxt:∀kvs':List (Key×V),(∀y,Rung.isName y=true→((aQ kvs' (kN y)).isSome=true↔(∃m∈p.take i,isVar m∧m.gives=some y)∨(isVar u∧u.gives=some y)))→∀y,Rung.isName y=true→((aQ kvs' (kN y)).isSome=true↔∃m∈p.take (i+1),isVar m∧m.gives=some y):=fun kvs' h y hy=>by
   rw[h y hy,List.take_succ,hu]
   simp only[Option.toList_some,List.mem_append,List.mem_singleton]
   constructor
   ·rintro(⟨m,hm,e⟩|e)
    ·exact⟨m,.inl hm,e⟩
    ·exact⟨u,.inr rfl,e⟩
   ·rintro⟨m,hm|hm,e⟩
    ·exact .inl ⟨m,hm,e⟩
    ·subst hm
     exact .inr e
  have more:h_ p i u=false→∀(j:Nat) (w:Rung.Line),j<i+1→p[j]? =some w→h_ p j w=false:=fun h0 j w hj hw=>by
   by_cases e:j=i
   ·subst e
    rw[hu] at hw
    cases hw
    exact h0
   ·exact hb j w (by omega) hw
  by_cases h01:u.sort=0∨u.sort=1
  ·rw[if_pos h01]
   simp only[hb2,T.eU,T.gZ,T.jH,jJ,nD,Option.some.injEq,HO.ins.injEq,exists_and_left,exists_eq_left',true_and,and_assoc,V.int.injEq,jw]
   refine⟨_,jx.k (k:=kN (nameOf u)) hc2 (by rw[sizeLine_eq];omega),?_⟩
   have Ol:b≠L:=fun z=>by rw[z,hc2] at hb2;cases hb2
   have hb3:(upd H2 L (.dK (putK kvs (kN (nameOf u)) (.bl true)))) b=some (.ins A.row dx (pH u.sort (nameOf u) n (zE u))):=by rw[aH Ol];exact hb2
   unfold Ek
   walk_at"rd"
   simp only[hb3,T.eU,T.gZ,T.jH,jJ,nD,Option.some.injEq,HO.ins.injEq,exists_and_left,exists_eq_left',true_and,and_assoc,V.int.injEq,jw]
   rw[if_neg (by omega)]
   have bn:h_ p i u=false:=by
    cases u<;>first|rfl|(simp[Rung.Line.sort] at h01)
   refine⟨_,_,_,rfl,cC s2 hL,aC,?_,nxt _ fun y hy=>?_,more bn⟩
   ·have:=tO kvs (kN (nameOf u)) (.bl true)
    omega
   ·rw[nu,nF u,if_neg (show ¬u.sort=3 by omega)]
    have hv:isVar u:=h01
    by_cases e:kN y=kN (nameOf u)
    ·rw[if_pos e,(Aq hy hun).mp e]
     simp[hv]
    ·rw[if_neg e,hk y hy]
     have:¬(some (nameOf u)=some y):=fun z=>e (by rw[Option.some.inj z])
     simp[this]
  ·rw[if_neg h01]
   unfold Ek
   walk_at"rd"
   simp only[hb2,T.eU,T.gZ,T.jH,jJ,nD,Option.some.injEq,HO.ins.injEq,exists_and_left,exists_eq_left',true_and,and_assoc,V.int.injEq,jw]
   have stay:∀y,Rung.isName y=true→((aQ kvs (kN y)).isSome=true↔(∃m∈p.take i,isVar m∧m.gives=some y)∨(isVar u∧u.gives=some y)):=fun y hy=>by
    have:¬isVar u:=h01
    rw[hk y hy]
    simp[this]
   by_cases h3:u.sort=3
   ·rw[if_pos (by omega)]
    refine⟨_,dG.k (k:=kN (nameOf u)) hc2,?_⟩
    have bn:h_ p i u= !(aQ kvs (kN (nameOf u))).isSome:=by
     have e1:h_ p i u=(Rung.varOf p (nameOf u)).isNone:=by
      cases u<;>first|rfl|(simp[Rung.Line.sort] at h3)
     rw[e1,Bool.eq_iff_iff,afF]
     simp only[Bool.not_eq_true',Bool.eq_false_iff,ne_eq,hk _ hun]
     constructor
     ·rintro h ⟨m,hm,hv,e⟩
      exact h m (List.mem_of_mem_take hm) hv e
     ·intro h m hm hv e
      obtain⟨j,hj⟩:=List.mem_iff_getElem?.mp hm
      refine h ⟨m,?_,hv,e⟩
      have hji:j<i:=by
       refine Decidable.byContradiction fun z=>?_
       by_cases ej:j=i
       ·rw[ej,hu] at hj
        cases hj
        exact h01 hv
       ·have:=agR aiW (show i<j by omega) hu hj
        rcases hv with z2|z2<;>omega
      refine List.mem_of_getElem? (i:=j) ?_
      rw[List.getElem?_take_of_lt hji]
      exact hj
    cases hv:aQ kvs (kN (nameOf u)) with
    |none=>
     rw[if_pos (by rfl)]
     exact q _ H2 s2 (by rw[find_some hu (by rw[bn,hv];rfl) hb];rfl)
    |some v=>
     rw[if_neg (by simp)]
     exact⟨_,_,kvs,rfl,s2,hc2,by omega,nxt kvs stay,more (by rw[bn,hv];rfl)⟩
   ·rw[if_neg (by omega)]
    have bn:h_ p i u=false:=by
     cases u<;>first|rfl|(simp[Rung.Line.sort] at h3)
    exact⟨_,_,kvs,rfl,s2,hc2,by omega,nxt kvs stay,more bn⟩
 ·rintro σ H1 ⟨l,r,kvs,rfl,s1,_,_,_,hb⟩
  simp only[QG]
  walk_at"rd"
  refine q _ H1 s1 ?_
  rw[find_none fun j u hu=>hb j u ?_ hu]
  ·rfl
  ·rw[hlen]
   exact(List.getElem?_eq_some_iff.mp hu).1
end
def xg(A:Ad):Addr→Sp→Prop:=fun f sp=>(f=A.wI∧sp=wG A)∨(f=A.yH∧sp=yu A)∨(f=A.xH∧sp=wZ A)∨(f=A.wR∧sp=wK A)∨(f=A.xJ∧sp=w6 A)
def wL(K:PySem.W.Frag)(A:Ad):TS:=(bB (aZ (aG (fun x y H Q=>y= .non∧Q (.bl (!decide (x= .non))) H) (aj 3) (tC .non))) (aL (bQ (ak (aj 1) (ak (aj 3) aq)))) bA)
def Fd(K:PySem.W.Frag)(A:Ad):TS:=(aL (bQ (ak (tC (V.int 0)) (ak (tC (V.int 0)) aq))))
def Gu(K:PySem.W.Frag)(A:Ad):TS:=(aB (eY (aae K (ak (tC (.ref A.m_)) aq)) (iB K 2 (dD (aJ 1) (dD (aJ 2) iz))) (aB (aY (Mz (aj 2) (ak (aj 0) aq) (xg A)) (aJ 3)) (wL K A))) (Fd K A))
theorem agS{K:PySem.W.Frag}{a:Addr}{xs:List V}{i1 i2:Nat}{tb:TS}{D:Ends}{σ:L2.St}{H:Hp}(Pv:Nat→L2.St→Hp→Prop)(h0:Pv 0 σ H)(hl:∀H,bK K H a xs)
 (hs:∀i x σ H0 H1,xs[i]? =some x→Pv i σ H0→Same H0 H1→tb {D with nx:=Pv (i+1),ct:=Pv (i+1),bk:=D.nx} ((σ.set i1 (some (.int ((1+i:Nat):Int)))).set i2 (some x)) H1)(hd:∀σ H,Pv xs.length σ H→D.nx σ H):
 ∃W:Nat→Nat→L2.St→Hp→Prop,(∃m,W 0 m σ H)∧∀i m σ H,W i m σ H→
  ((vh K a).stop i H∧D.nx σ H)∨((vh K a).go i H∧∃N:L2.St→Hp→Prop,(∀σ' H',N σ' H'→∃m',m'<m∧W (i+1) m' σ' H')∧∀x H',(vh K a).fY i H x H'→iB K 2 (dD (aJ i1) (dD (aJ i2) iz)) x σ H' fun σ2 H2=>tb {D with nx:=N,ct:=N,bk:=D.nx} σ2 H2):=by
 refine⟨fun i m σ H=>m=xs.length - i∧i≤xs.length∧Pv i σ H,⟨xs.length,by simp,Nat.zero_le _,h0⟩,?_⟩
 rintro i m σ H ⟨rfl,hi,p⟩
 have q:=hl H
 by_cases hlt:i<xs.length
 ·refine .inr ⟨⟨xs,xs[i],q,by simp[hlt]⟩,Pv (i+1),fun σ' H' p'=>⟨xs.length - (i+1),by omega,rfl,hlt,p'⟩,fun x H' y=>?_⟩
  obtain⟨T,z,rfl,hT,rfl,hz⟩:=y
  exact⟨T,_,rfl,bK.of aC,rfl,_,_,rfl,_,_,rfl,rfl,hs i z σ H _ (hz xs q) p (bI hT)⟩
 ·have e:i=xs.length:=by omega
  subst e
  exact .inl ⟨⟨xs,q,rfl⟩,hd σ H p⟩
theorem KN(os:List (Option Rung.Line)):∀k,Rung.all os k=match os.findIdx? Option.isNone with
 |some j=>.error (k+j)
 |none=>.ok (os.filterMap id):=by
 induction os with
 |nil=>intro k;rfl
 |cons o r ih=>
  intro k
  cases o with
  |none=>simp[Rung.all,List.findIdx?_cons]
  |some l=>
   rw[Rung.all,ih (k+1),List.findIdx?_cons]
   cases h:r.findIdx? Option.isNone with
   |none=>simp
   |some j=>
    simp
    omega
theorem all_some{os:List (Option Rung.Line)}(h:os.findIdx? Option.isNone=none):os=(os.filterMap id).map some:=by
 have n:=List.findIdx?_eq_none_iff.mp h
 induction os with
 |nil=>rfl
 |cons o r ih=>
  cases o with
  |none=>exact absurd (n none (List.mem_cons_self ..)) (by simp)
  |some l=>
   have ih':=ih (List.findIdx?_eq_none_iff.mpr fun x hx=>n x (List.mem_cons_of_mem _ hx)) fun x hx=>n x (List.mem_cons_of_mem _ hx)
   rw[List.filterMap_cons]
   simp only[id,List.map_cons]
   rw[←ih']
def Clean(os:List (Option Rung.Line))(i:Nat):Prop:=(0<i→os.findIdx? Option.isNone=none)∧(1<i→Rung.firstLine (os.filterMap id) (jk (os.filterMap id))=none)∧(2<i→Rung.firstLine (os.filterMap id) (j_ (os.filterMap id))=none)∧
 (3<i→Rung.firstLine (os.filterMap id) (fU (os.filterMap id))=none)∧(4<i→Rung.firstLine (os.filterMap id) (h_ (os.filterMap id))=none)
def Lz(a:Addr)(os:List (Option Rung.Line))(H:Hp):Nat→L2.St→Hp→Prop:=fun i σ H'=>∃(x y z:Option V),σ=[some (.ref a),x,y,z]∧Same H H'∧Clean os i
theorem afG(os:List (Option Rung.Line)):eF os=match os.findIdx? Option.isNone with
 |some j=>(1,j)
 |none=>match Rung.faultIn (os.filterMap id) with
  |some f=>f
  |none=>(0,0):=by
 unfold eF
 rw[KN os 0]
 cases os.findIdx? Option.isNone with
 |none=>rfl
 |some j=>simp
section
variable{K:PySem.W.Frag}{mg:Str→Option Value}{A:Ad}
theorem adw(T:Tx K mg A)(vs:List V)(H:Hp)(Q:VK)(E:XK)(h:Gs A vs H Q E):Gu K A {nx:=fun _ H'=>Q .non H',rt:=Q} (L2.start ["rows","kind","finder","line"] vs) H:=by
 obtain⟨a,os,rfl,⟨hr,hn⟩,q⟩:=h
 show Gu K A _ [some (.ref a),none,none,none] H
 rw[afG] at q
 refine⟨A.m_,_,rfl,T.zf _,agS (Lz a os H) ⟨none,none,none,rfl,Same.refl H,by simp[Clean]⟩ T.zf ?_ ?_⟩
 ·rintro i x σ H0 H1 hi ⟨x0,y0,z0,rfl,s0,cl⟩ s1
  have s01:=s0.trans s1
  have hr1:=hr.mono s01
  have go:∀(f:Addr) (sp:Sp) (r:Option Nat),x= .ref f→xg A f sp→(∀Q':VK,(cQ H1 Q' fun v _=>v=mJ r)→sp [.ref a] H1 Q' E0)→(∀k,r=some k→(match os.findIdx? Option.isNone with
   |some j=>(1,j)
   |none=>match Rung.faultIn (os.filterMap id) with
    |some f=>f
    |none=>(0,0))=(1+i,k))→(r=none→Clean os (i+1))→
   aB (aY (Mz (aj 2) (ak (aj 0) aq) (xg A)) (aJ 3)) (wL K A) {nx:=Lz a os H (i+1),rt:=Q,ct:=Lz a os H (i+1),bk:=Fd K A {nx:=fun _ H'=>Q .non H',rt:=Q}} [some (.ref a),some (.int ((1+i:Nat):Int)),some x,z0] H1:=by
   intro f sp r ex hsp hcall hbad aj6
   subst ex
   refine⟨_,rfl,f,sp,rfl,hsp,_,rfl,hcall _ fun v H2 s2 ev=>?_⟩
   subst ev
   show wL K A _ [some (.ref a),some (.int ((1+i:Nat):Int)),some (.ref f),some (mJ r)] H2
   have CP:=s01.trans s2
   unfold wL
   walk_at"rd"
   cases r with
   |none=>
    rw[if_neg (by simp[mJ])]
    exact⟨_,_,_,rfl,CP,aj6 rfl⟩
   |some k=>
    rw[if_pos (by simp[mJ])]
    refine⟨len2 _ _,fun p hp=>?_⟩
    refine q _ _ (cC CP (CP.free hp)) ⟨p,rfl,bO (CP.free hp) ?_⟩
    rw[aC,hbad k rfl]
    rfl
  obtain⟨c1,c2,c3,c4,c5⟩:=cl
  have lines:0<i→kh A.row H1 a (os.filterMap id):=fun h0=>by
   have e:=all_some (c1 h0)
   refine⟨by rw[←e];exact hr1,fun l hl=>hn l ?_⟩
   obtain⟨o,ho,e2⟩:=List.mem_filterMap.mp hl
   simp only[id] at e2
   rw[←e2]
   exact ho
  match i,hi,c1,c2,c3,c4,c5,lines,go with
  |0,hi,c1,c2,c3,c4,c5,lines,go=>
   have ex:x= .ref A.wI:=(Option.some.inj hi).symm
   refine go _ (wG A) (os.findIdx? Option.isNone) ex (.inl ⟨rfl,rfl⟩) (fun Q' hq=>⟨a,os,rfl,hr1,hq⟩) (fun k hk=>?_) fun h0=>?_
   ·rw[hk]
   ·exact⟨fun _=>h0,fun z=>absurd z (by decide),fun z=>absurd z (by decide),fun z=>absurd z (by decide),fun z=>absurd z (by decide)⟩
  |1,hi,c1,c2,c3,c4,c5,lines,go=>
   have ex:x= .ref A.yH:=(Option.some.inj hi).symm
   have h1:=c1 (by decide)
   refine go _ (yu A) _ ex (.inr (.inl ⟨rfl,rfl⟩)) (fun Q' hq=>⟨a,os.filterMap id,rfl,lines (by decide),hq⟩) (fun k hk=>?_) fun h0=>?_
   ·rw[h1]
    simp only[oU,hk]
   ·exact⟨fun _=>h1,fun _=>h0,fun z=>absurd z (by decide),fun z=>absurd z (by decide),fun z=>absurd z (by decide)⟩
  |2,hi,c1,c2,c3,c4,c5,lines,go=>
   have ex:x= .ref A.xH:=(Option.some.inj hi).symm
   have h1:=c1 (by decide)
   have h2:=c2 (by decide)
   refine go _ (wZ A) _ ex (.inr (.inr (.inl ⟨rfl,rfl⟩))) (fun Q' hq=>⟨a,os.filterMap id,rfl,lines (by decide),hq⟩) (fun k hk=>?_) fun h0=>?_
   ·rw[h1]
    simp only[oU,h2,hk]
   ·exact⟨fun _=>h1,fun _=>h2,fun _=>h0,fun z=>absurd z (by decide),fun z=>absurd z (by decide)⟩
  |3,hi,c1,c2,c3,c4,c5,lines,go=>
   have ex:x= .ref A.wR:=(Option.some.inj hi).symm
   have h1:=c1 (by decide)
   have h2:=c2 (by decide)
   have h3:=c3 (by decide)
   refine go _ (wK A) _ ex (.inr (.inr (.inr (.inl ⟨rfl,rfl⟩)))) (fun Q' hq=>⟨a,os.filterMap id,rfl,lines (by decide),hq⟩) (fun k hk=>?_) fun h0=>?_
   ·rw[h1]
    simp only[oU,h2,h3,hk]
   ·exact⟨fun _=>h1,fun _=>h2,fun _=>h3,fun _=>h0,fun z=>absurd z (by decide)⟩
  |4,hi,c1,c2,c3,c4,c5,lines,go=>
   have ex:x= .ref A.xJ:=(Option.some.inj hi).symm
   have h1:=c1 (by decide)
   have h2:=c2 (by decide)
   have h3:=c3 (by decide)
   have h4:=c4 (by decide)
   refine go _ (w6 A) _ ex (.inr (.inr (.inr (.inr ⟨rfl,rfl⟩)))) (fun Q' hq=>⟨a,os.filterMap id,rfl,lines (by decide),h2,hq⟩) (fun k hk=>?_) fun h0=>?_
   ·rw[h1]
    simp only[oU,h2,h3,h4,hk,Option.map_some]
   ·exact⟨fun _=>h1,fun _=>h2,fun _=>h3,fun _=>h4,fun _=>h0⟩
  |i+5,hi,_,_,_,_,_,_,_=>simp at hi
 ·rintro σ H1 ⟨x,y,z,rfl,s1,c1,c2,c3,c4,c5⟩
  simp only[Fd]
  walk_at"rd"
  refine⟨len2 _ _,fun p hp=>?_⟩
  refine q _ _ (cC s1 (s1.free hp)) ⟨p,rfl,bO (s1.free hp) ?_⟩
  have h1:=c1 (by simp)
  have h2:=c2 (by simp)
  have h3:=c3 (by simp)
  have h4:=c4 (by simp)
  have h5:=c5 (by simp)
  rw[aC,h1]
  simp only[oU,h2,h3,h4,h5,Option.map_none]
  rfl
end
def oW(v op:Nat)(n:Addr):List (Str×V):=[("variable",.int v),("opener",.int op),("nodes",.ref n)]
theorem Uj(v op:Nat)(n:Addr):(oW v op n).lookup ("variable":Str)=some (V.int v):=rfl
theorem afH(v op:Nat)(n:Addr):(oW v op n).lookup ("opener":Str)=some (V.int op):=rfl
theorem agT(v op:Nat)(n:Addr):(oW v op n).lookup ("nodes":Str)=some (V.ref n):=rfl
def n_(m:Nat):Nat:=(2^m - 1)*2^16
def rR(ni m:Nat):Nat:=(2^ni - 1) ||| n_ m
def lJ(ni m:Nat)(lc lk d:Addr):List (Str×V):=[("inputs",.int (ni:Int)),("coils",.ref lc),("contacts",.ref lk),("relay_mask",.int ((n_ m:Nat):Int)),("mask",.int ((rR ni m:Nat):Int)),("drawing",.ref d)]
theorem afI(ni m:Nat)(lc lk d:Addr):(lJ ni m lc lk d).lookup ("inputs":Str)=some (V.int (ni:Int)):=rfl
theorem j7(ni m:Nat)(lc lk d:Addr):(lJ ni m lc lk d).lookup ("coils":Str)=some (V.ref lc):=rfl
theorem Uk(ni m:Nat)(lc lk d:Addr):(lJ ni m lc lk d).lookup ("contacts":Str)=some (V.ref lk):=rfl
theorem agU(ni m:Nat)(lc lk d:Addr):(lJ ni m lc lk d).lookup ("relay_mask":Str)=some (V.int ((n_ m:Nat):Int)):=rfl
theorem KQ(ni m:Nat)(lc lk d:Addr):(lJ ni m lc lk d).lookup ("mask":Str)=some (V.int ((rR ni m:Nat):Int)):=rfl
theorem Iw(ni m:Nat)(lc lk d:Addr):(lJ ni m lc lk d).lookup ("drawing":Str)=some (V.ref d):=rfl
def pO(c:Rung.Contact):Nat:=if c.closer=true then 0 else 1
def qT(A:Ad)(G:Hp)(v:V)(c:Rung.Contact):Prop:=∃a dx n,v= .ref a∧G a=some (.ins A.contact dx (oW c.var (pO c) n))∧G n=some (.lst (nV [c.a,c.b]))
def hide(d:Addr)(H:Hp):Hp:=fun b=>if b=d then none else H b
theorem hide_ne{d b:Addr}{H:Hp}(h:b≠d):hide d H b=H b:=if_neg h
theorem Av{d:Addr}{H:Hp}:hide d H d=none:=if_pos rfl
theorem dH{d b:Addr}{H:Hp}{o:HO}(h:hide d H b=some o):b≠d∧H b=some o:=by
 by_cases e:b=d
 ·rw[e,Av] at h;cases h
 ·rw[hide_ne e] at h;exact⟨e,h⟩
theorem cZ{d b:Addr}{H:Hp}{o:HO}(e:b≠d)(h:H b=some o):hide d H b=some o:=by rw[hide_ne e];exact h
theorem nG(d:Addr)(H:Hp):Same (hide d H) H:=fun b o h=>(dH h).2
def Near(d:Addr)(H H':Hp):Prop:=Same (hide d H) (hide d H')
theorem Near.refl(d:Addr)(H:Hp):Near d H H:=Same.refl _
theorem Near.trans{d:Addr}{H H1 H2:Hp}(a:Near d H H1)(b:Near d H1 H2):Near d H H2:=Same.trans a b
theorem Near.of{d:Addr}{H H':Hp}(s:Same H H'):Near d H H':=fun b o h=>by
 obtain⟨h1,h2⟩:=dH h
 exact cZ h1 (s b o h2)
theorem Near.get{d b:Addr}{H H':Hp}{o:HO}(n:Near d H H')(hb:b≠d)(h:H b=some o):H' b=some o:=(dH (n b o (cZ hb h))).2
theorem Near.upd{d a:Addr}{H H':Hp}{o:HO}(n:Near d H H')(h:H a=none):Near d H (upd H' a o):=fun b u e=>by
 obtain⟨h1,h2⟩:=dH (n b u e)
 exact cZ h1 (by rw[aH (bM (dH e).2 h)];exact h2)
theorem Near.ald{d:Addr}{H H':Hp}{o:HO}(n:Near d H H'):Near d H (L2.upd H' d o):=fun b u e=>by
 obtain⟨h1,h2⟩:=dH (n b u e)
 exact cZ h1 (by rw[aH h1];exact h2)
theorem Near.free{d b:Addr}{H H':Hp}(n:Near d H H')(hd:H' d≠none)(h:H' b=none):H b=none:=by
 cases e:H b with
 |none=>rfl
 |some o=>
  have hb:b≠d:=fun z=>hd (by rw[←z];exact h)
  rw[n.get hb e] at h
  cases h
def cD(H:Hp)(d:Addr)(s:Rung.Scheme)(n:Nat):Prop:=∃kvs:List (Key×V),H d=some (.dK kvs)∧kvs.length≤n∧∀(x:Nat) (v:V),aQ kvs (Sum.inl (x:Int))=some v→v= .int ((MP.dX s x:Nat):Int)
theorem cD.ne{H:Hp}{d:Addr}{s:Rung.Scheme}{n:Nat}(h:cD H d s n):H d≠none:=by
 obtain⟨k,h1,_⟩:=h
 rw[h1]
 simp
theorem cD.to{H H':Hp}{d:Addr}{s:Rung.Scheme}{n m:Nat}(h:cD H d s n)(e:∀o,H d=some o→H' d=some o)(l:n≤m):cD H' d s m:=by
 obtain⟨k,h1,h2,h3⟩:=h
 exact⟨k,e _ h1,Nat.le_trans h2 l,h3⟩
theorem cD.same{H H':Hp}{d:Addr}{s:Rung.Scheme}{n:Nat}(h:cD H d s n)(e:Same H H'):cD H' d s n:=h.to (fun o=>e d o) (Nat.le_refl _)
theorem cD.upd{H:Hp}{d a:Addr}{s:Rung.Scheme}{n:Nat}{o:HO}(h:cD H d s n)(e:H a=none):cD (upd H a o) d s n:=h.same (bI e)
theorem cD.le{H:Hp}{d:Addr}{s:Rung.Scheme}{n m:Nat}(h:cD H d s n)(l:n≤m):cD H d s m:=h.to (fun _ e=>e) l
theorem cD.put{H:Hp}{d a:Addr}{s:Rung.Scheme}{n:Nat}{o:HO}(h:cD H d s n)(e:a≠d):cD (L2.upd H a o) d s n:=h.to (fun u z=>by rw[aH (Ne.symm e)];exact z) (Nat.le_refl _)
def gJ(A:Ad)(G:Hp)(v:V)(s:Rung.Scheme)(d:Addr):Prop:=∃a dx lc lk cs,v= .ref a∧G a=some (.ins A.scheme dx (lJ s.inputs.length s.relays.length lc lk d))∧G lc=some (.lst (nV (s.relays.map (·.node))))∧G lk=some (.lst cs)∧Paired (qT A G) cs s.contacts
theorem qT.mono{A:Ad}{G G':Hp}{v:V}{c:Rung.Contact}(s:Same G G')(h:qT A G v c):qT A G' v c:=by
 obtain⟨a,dx,n,e,h1,h2⟩:=h
 exact⟨a,dx,n,e,s _ _ h1,s _ _ h2⟩
theorem gJ.mono{A:Ad}{G G':Hp}{v:V}{c:Rung.Scheme}{d:Addr}(s:Same G G')(h:gJ A G v c d):gJ A G' v c d:=by
 obtain⟨a,dx,lc,lk,cs,e,h1,h2,h3,h4⟩:=h
 exact⟨a,dx,lc,lk,cs,e,s _ _ h1,s _ _ h2,s _ _ h3,Paired.dY h4 fun _ _ r=>r.mono s⟩
structure iV(s:Rung.Scheme):Prop where
 ins:s.inputs.length≤16
 rel:s.relays.length≤12
 con:s.contacts.length≤256
 low:ML.Low s
 coil:∀r∈s.relays,r.node<64
 var:∀c∈s.contacts,s.hasVar c.var=true
structure eO(A:Ad)(H:Hp)(v:V)(s:Rung.Scheme)(d:Addr)(n:Nat):Prop where
 at_:gJ A (hide d H) v s d
 well:iV s
 d8:cD H d s n
theorem eO.near{A:Ad}{H H':Hp}{v:V}{s:Rung.Scheme}{d:Addr}{n m:Nat}(h:eO A H v s d n)(e:Near d H H')(w:cD H' d s m):eO A H' v s d m:=⟨h.at_.mono e,h.well,w⟩
theorem eO.same{A:Ad}{H H':Hp}{v:V}{s:Rung.Scheme}{d:Addr}{n:Nat}(h:eO A H v s d n)(e:Same H H'):eO A H' v s d n:=h.near (Near.of e) (h.d8.same e)
theorem eO.sees{A:Ad}{H:Hp}{v:V}{s:Rung.Scheme}{d:Addr}{n:Nat}(h:eO A H v s d n):gJ A H v s d:=h.at_.mono (nG d H)
def jA(H:Hp)(d:Addr)(s:Rung.Scheme)(n:Nat)(Q:VK)(R:V→Hp→Prop):Prop:=∀v H',Near d H H'→cD H' d s n→R v (nw H H')→Q v H'
def V8(A:Ad):=Ba A.contact ["variable","opener","nodes"]
def J4(A:Ad):List V→Hp→VK→Prop:=fun vs H Q=>∃(ni:Nat) (lc lk:Addr) (cs:List V),vs=[.int (ni:Int),.ref lc,.ref lk]∧ni≤16∧H lc=some (.lst cs)∧cs.length≤12∧
 ∀x dx d H',Same H H'→H x=none→H d=none→H' x=some (.ins A.scheme dx (lJ ni cs.length lc lk d))→H' d=some (.dK [])→x≠d→Q (.ref x) H'
def qz:Sp:=fun vs H Q _=>∃j:Nat,vs=[.int j]∧j≤1000∧Q (.int ((2^(16+j):Nat):Int)) H
def fX(xs:List V)(p:List Rung.Line)(r:Nat):List V:=((xs.zip p).filter fun u=>u.2.sort==r).map (·.1)
def oO(A:Ad):Sp:=fun vs H Q _=>∃(a:Addr) (xs:List V) (p:List Rung.Line) (r:Nat),vs=[.ref a,.int r]∧H a=some (.lst xs)∧Paired (pN A.row H) xs p∧p.length≤20001∧cQ H Q fun v G=>∃l,v= .ref l∧G l=some (.lst (fX xs p r))
def namesOf(p:List Rung.Line)(r:Nat):List Rung.Name:=(p.filter fun l=>l.sort==r).map nameOf
def Aw(p:List Rung.Line):List (Key×V):=((namesOf p 0).zipIdx.map fun u=>(kN u.1,V.int ((u.2:Nat):Int)))++((namesOf p 1).zipIdx.map fun u=>(kN u.1,V.int ((16+u.2:Nat):Int)))
def DR(A:Ad):Sp:=fun vs H Q _=>∃(a:Addr) (xs:List V) (p:List Rung.Line),vs=[.ref a]∧H a=some (.lst xs)∧Paired (pN A.row H) xs p∧p.length≤20001∧uH p∧Rung.firstLine p (fU p)=none∧cQ H Q fun v G=>∃d,v= .ref d∧G d=some (.dK (Aw p))
def yw(K:PySem.W.Frag)(A:Ad):Sp:=fun vs H Q _=>∃(B:Hp) (a:Addr) (xs:List V) (p:List Rung.Line),vs=[.ref a]∧Same B H∧H a=some (.lst xs)∧Paired (pN A.row (nw B H)) xs p∧p.length≤20001∧uH p∧Rung.faultIn p=none∧
 ∀v d H',Same H H'→gJ A (hide d (nw B H')) v (Rung.schemeOf p) d→H d=none→H' d=some (.dK [])→Q v H'
def Fz(A:Ad):Sp:=fun vs H Q _=>∃(v:V) (c:Rung.Contact) (x:Nat),vs=[v,.int x]∧qT A H v c∧Q (.bl (c.closed x)) H
def ale(G:Hp)(v:V)(s:Rung.Scheme)(x:Nat):Prop:=∃(r:Addr) (ls:List Addr),v= .ref r∧G r=some (.lst (ls.map V.ref))∧ls.length=64∧∀(k:Nat) (l:Addr),ls[k]? =some l→∃ns:List Nat,G l=some (.lst (nV ns))∧∀m,m∈ns↔ML.qd s x k m
def Dn(A:Ad):Sp:=fun vs H Q _=>∃(v:V) (s:Rung.Scheme) (x:Nat) (d:Addr),vs=[v,.int x]∧gJ A H v s d∧iV s∧cQ H Q fun v G=>ale G v s x
def GX(A:Ad):Sp:=fun vs H Q _=>∃(v:V) (s:Rung.Scheme) (x:Nat) (e:Addr),vs=[v,.int x]∧gJ A H v s e∧iV s∧cQ H Q fun v G=>∃d kvs,v= .ref d∧G d=some (.dK kvs)∧∀k:Nat,(aQ kvs (Sum.inl (k:Int))).isSome=true↔ML.je s x k
def qp(A:Ad):Sp:=fun vs H Q _=>∃(v:V) (s:Rung.Scheme) (x:Nat) (d:Addr) (n:Nat),vs=[v,.int x]∧eO A H v s d n∧n≤10000000∧jA H d s (n+1) Q fun v _=>v= .int ((MP.dX s x:Nat):Int)
def DW(A:Ad):Sp:=fun vs H Q _=>∃(v:V) (s:Rung.Scheme) (x j:Nat) (d:Addr) (n:Nat),vs=[v,.int x,.int j]∧eO A H v s d n∧n≤10000000∧j<s.relays.length∧jA H d s (n+1) Q fun v _=>v= .int ((Rung.rung s x j:Nat):Int)
def v8(A:Ad):Sp:=fun vs H Q _=>∃(v:V) (s:Rung.Scheme) (x:Nat) (a:Addr) (o:List Nat) (d:Addr) (n:Nat),vs=[v,.int x,.ref a]∧eO A H v s d n∧n≤9000000∧H a=some (.lst (nV o))∧o.length≤12∧(∀j∈o,j<s.relays.length)∧jA H d s (n+o.length) Q fun v G=>∃r,v= .ref r∧G r=some (.lst (nV (Rung.rungs s o x)))
def wj(A:Ad):Sp:=fun vs H Q _=>∃(v:V) (s:Rung.Scheme) (x:Nat) (a:Addr) (o:List Nat) (d:Addr) (n:Nat),vs=[v,.int x,.ref a]∧eO A H v s d n∧n≤9000000∧H a=some (.lst (nV o))∧o.length≤12∧(∀j∈o,j<s.relays.length)∧jA H d s (n+o.length) Q fun v _=>v= .int ((Rung.pass s o x:Nat):Int)
def yx(K:PySem.W.Frag)(A:Ad):TS:=(aL (aG (rI rZ fun i j=>.int (i*2^j.toNat)) (tC (V.int 1)) (aG (bx fun i j=>.int (i+j)) (tC (V.int 16)) (aj 0))))
def FJ(K:PySem.W.Frag)(A:Ad):TS:=(aL (dw (cU K (aj 0)) (aJ 2) (aZ (aG dh (aP K (aj 2) "rank") (aj 1))) (aj 2) [2]))
def Pn(K:PySem.W.Frag)(A:Ad):TS:=(aL (aj 1))
def Pq(K:PySem.W.Frag)(A:Ad):TS:=(aB (eY (mq K (ak (aU (oO A) (ak (aj 0) (ak (tC (V.int 1)) aq))) aq)) (iB K 2 (dD (aJ 2) (dD (aJ 3) iz))) (jo (aj 1) (aP K (aj 3) "name") (aG (bx fun i j=>.int (i+j)) (tC (V.int 16)) (aj 2)))) (Pn K A))
def Pr(K:PySem.W.Frag)(A:Ad):TS:=(aB (eY (mq K (ak (aU (oO A) (ak (aj 0) (ak (tC (V.int 0)) aq))) aq)) (iB K 2 (dD (aJ 2) (dD (aJ 3) iz))) (jo (aj 1) (aP K (aj 3) "name") (aj 2))) (Pq K A))
def DX(K:PySem.W.Frag)(A:Ad):TS:=(aB (aY kj (aJ 1)) (Pr K A))
def SQ(K:PySem.W.Frag)(A:Ad):TS:=(aL (jW (J4 A) (ak (aj 2) (ak (aj 3) (ak (aj 5) aq)))))
def SX(K:PySem.W.Frag)(A:Ad):TS:=(aB (aY (dw (cU K (aU (oO A) (ak (aj 0) (ak (tC (V.int 3)) aq)))) (aJ 4) fO (jW (V8 A) (ak (kW (aj 1) (aP K (aj 4) "name")) (ak (aP K (aj 4) "opener") (ak (aP K (aj 4) "nodes") aq)))) [4]) (aJ 5)) (SQ K A))
def S5(K:PySem.W.Frag)(A:Ad):TS:=(aB (aY (dw (cU K (aU (oO A) (ak (aj 0) (ak (tC (V.int 1)) aq)))) (aJ 4) fO (aG (cB K) (aP K (aj 4) "nodes") (tC (V.int 0))) [4]) (aJ 3)) (SX K A))
def S6(K:PySem.W.Frag)(A:Ad):TS:=(aB (aY (bU (fun xs H Q=>∃p ys,xs=[.ref p]∧(au K H p ys∨bK K H p ys)∧Q (.int ys.length) H) (ak (aU (oO A) (ak (aj 0) (ak (tC (V.int 0)) aq))) aq)) (aJ 2)) (S5 K A))
def HD(K:PySem.W.Frag)(A:Ad):TS:=(aB (aY (aU (DR A) (ak (aj 0) aq)) (aJ 1)) (S6 K A))
def xq(K:PySem.W.Frag)(A:Ad):TS:=(aL (aG gU (aG (bx fun i j=>.int (Builtin.bitAnd i j)) (aG (rI (fun _ j=>0≤j) fun i j=>.int (i / 2^j.toNat)) (aj 1) (aP K (aj 0) "variable")) (tC (V.int 1))) (aP K (aj 0) "opener")))
def O5(K:PySem.W.Frag)(A:Ad):TS:=(iu (i_ K "list" lM (aG (cB K) (aj 2) (aj 6)) (ak (aj 5) aq)))
def O6(K:PySem.W.Frag)(A:Ad):TS:=(aB (iu (i_ K "list" lM (aG (cB K) (aj 2) (aj 5)) (ak (aj 6) aq))) (O5 K A))
def O7(K:PySem.W.Frag)(A:Ad):TS:=(aB (aY (aG (cB K) (aP K (aj 4) "nodes") (tC (V.int 1))) (aJ 6)) (O6 K A))
def O8(K:PySem.W.Frag)(A:Ad):TS:=(aL (aj 2))
def O9(K:PySem.W.Frag)(A:Ad):TS:=(aB (eY (cU K (aP K (aj 0) "contacts")) (aJ 4) (bB (tB (aU (Fz A) (ak (aj 4) (ak (aj 1) aq)))) (aB (aY (aG (cB K) (aP K (aj 4) "nodes") (tC (V.int 0))) (aJ 5)) (O7 K A)) bA)) (O8 K A))
def Dq(K:PySem.W.Frag)(A:Ad):TS:=(aB (aY (dw (uU (ak (aG (bx fun i j=>.int (i+j)) (tC (V.int 63)) (tC (V.int 1))) aq)) (aJ 3) fO (bQ aq) [3]) (aJ 2)) (O9 K A))
def Ro(K:PySem.W.Frag)(A:Ad):TS:=(iu (i_ K "list" lM (aj 4) (ak (aj 6) aq)))
def Rp(K:PySem.W.Frag)(A:Ad):TS:=(eY (cU K (aG (cB K) (aj 2) (aj 5))) (aJ 6) (bB (tB (nM (aj 6) (aj 3))) (aB (jo (aj 3) (aj 6) (tC (V.bl true))) (Ro K A)) bA))
def Rq(K:PySem.W.Frag)(A:Ad):TS:=(aL (aj 3))
def Rr(K:PySem.W.Frag)(A:Ad):TS:=(aB (rA (aZ (aG (bx fun i j=>.bl (decide (j<i))) (bU (fun xs H Q=>∃p ys,xs=[.ref p]∧(au K H p ys∨bK K H p ys)∧Q (.int ys.length) H) (ak (aj 4) aq)) (tC (V.int 0)))) (aB (aY (Bt K "list" NT (aj 4)) (aJ 5)) (Rp K A))) (Rq K A))
def Rt(K:PySem.W.Frag)(A:Ad):TS:=(aB (aY (bQ (ak (tC (V.int 0)) aq)) (aJ 4)) (Rr K A))
def Ru(K:PySem.W.Frag)(A:Ad):TS:=(aB (aY (Np [((tC (V.int 0)),(tC (V.bl true)))]) (aJ 3)) (Rt K A))
def GZ(K:PySem.W.Frag)(A:Ad):TS:=(aB (aY (aU (Dn A) (ak (aj 0) (ak (aj 1) aq))) (aJ 2)) (Ru K A))
def abQ(K:PySem.W.Frag)(A:Ad):TS:=(jo (aP K (aj 0) "drawing") (aj 1) (bU (Bv K) (ak (dw (mq K (ak (aP K (aj 0) "coils") aq)) (iB K 2 (dD (aJ 3) (dD (aJ 4) iz))) (tB (vg (aj 4) (aj 2))) (aU qz (ak (aj 3) aq)) [4,3]) aq)))
def Ec(K:PySem.W.Frag)(A:Ad):TS:=(aL (kW (aP K (aj 0) "drawing") (aj 1)))
def wH(K:PySem.W.Frag)(A:Ad):TS:=(aB (bB (tB (nM (aj 1) (aP K (aj 0) "drawing"))) (aB (aY (aU (GX A) (ak (aj 0) (ak (aj 1) aq))) (aJ 2)) (abQ K A)) bA) (Ec K A))
def Pu(K:PySem.W.Frag)(A:Ad):TS:=(aL (aG (bx fun i j=>.int (Builtin.bitOr i j)) (aG (bx fun i j=>.int (Builtin.bitAnd i j)) (aj 1) (ou (rU fun i=>.int (Builtin.bitNot i)) (aj 3))) (aG (bx fun i j=>.int (Builtin.bitAnd i j)) (aU (qp A) (ak (aj 0) (ak (aj 1) aq))) (aj 3))))
def wu(K:PySem.W.Frag)(A:Ad):TS:=(aB (aY (aU qz (ak (aj 2) aq)) (aJ 3)) (Pu K A))
def O_(K:PySem.W.Frag)(A:Ad):TS:=(iu (i_ K "list" lM (aj 3) (ak (aj 4) aq)))
def Pa(K:PySem.W.Frag)(A:Ad):TS:=(aL (aj 3))
def Pb(K:PySem.W.Frag)(A:Ad):TS:=(aB (eY (cU K (aj 2)) (aJ 5) (aB (aY (aU (DW A) (ak (aj 0) (ak (aj 4) (ak (aj 5) aq)))) (aJ 4)) (O_ K A))) (Pa K A))
def Pg(K:PySem.W.Frag)(A:Ad):TS:=(aB (aY (aj 1) (aJ 4)) (Pb K A))
def Dr(K:PySem.W.Frag)(A:Ad):TS:=(aB (aY (bQ aq) (aJ 3)) (Pg K A))
def Px(K:PySem.W.Frag)(A:Ad):TS:=(aL (vG (aZ (aG (bx fun i j=>.bl (decide (j<i))) (bU (fun xs H Q=>∃p ys,xs=[.ref p]∧(au K H p ys∨bK K H p ys)∧Q (.int ys.length) H) (ak (aj 3) aq)) (tC (V.int 0)))) (aG (cB K) (aj 3) (ou (rU fun i=>.int (-i)) (tC (V.int 1)))) (aj 1)))
def wA(K:PySem.W.Frag)(A:Ad):TS:=(aB (aY (aU (v8 A) (ak (aj 0) (ak (aj 1) (ak (aj 2) aq)))) (aJ 3)) (Px K A))
theorem ahN{K:PySem.W.Frag}{a:Addr}{xs:List V}{i1 i2:Nat}{ws:List Nat}{tt:TT}{te:TE}{σ:L2.St}{H1:Hp}{D:Addr}{Qd:Hp→Prop}(flt:Nat→Bool)(Pe:Nat→V→Prop)(hD:H1 D=none)(hx:au K H1 a xs)
 (hw:∀u v:V,L2.wipe (((L2.wipe σ ws).set i1 (some u)).set i2 (some v)) ws=L2.wipe σ ws)
 (ht:∀i x Hc,xs[i]? =some x→Same H1 Hc→∀Qt:Bool→Hp→Prop,(∀H3,Same Hc H3→Qt (flt i) H3)→tt (((L2.wipe σ ws).set i1 (some (.int (i:Nat)))).set i2 (some x)) Hc Qt)
 (he:∀i x Hc,xs[i]? =some x→flt i=true→Same H1 Hc→∀Qe:VK,(∀y H4,Same Hc H4→Pe i y→Qe y H4)→te (((L2.wipe σ ws).set i1 (some (.int (i:Nat)))).set i2 (some x)) Hc Qe)
 (hn:xs.length≤sizeLine)
 (hq:∀ys H',Same H1 H'→H' D=some (.lst ys)→Paired Pe ((List.range xs.length).filter flt) ys→Qd H'):
 ∃W:Nat→Nat→Hp→Prop,(∃m,W 0 m (upd H1 D (.lst [])))∧∀i m H,W i m H→
  ((Ite K a).stop i H∧Qd H)∨((Ite K a).go i H∧∃Nx:Hp→Prop,(∀H',Nx H'→∃m',m'<m∧W (i+1) m' H')∧∀x H',(Ite K a).fY i H x H'→iB K 2 (dD (aJ i1) (dD (aJ i2) iz)) x (L2.wipe σ ws) H' fun σ2 H2=>L2.wipe σ2 ws=L2.wipe σ ws∧tt σ2 H2 fun b H3=>
    if b=true then te σ2 H3 fun y H4=>∃acc,H4 D=some (.lst acc)∧acc.length<sizeLine∧Nx (upd H4 D (.lst (acc++[y]))) else Nx H3):=by
 let Pv:Nat→Hp→Prop:=fun i Hc=>∃ys,Hc D=some (.lst ys)∧Same H1 Hc∧Paired Pe ((List.range i).filter flt) ys
 refine⟨fun i m Hc=>m=xs.length - i∧i≤xs.length∧Pv i Hc,⟨xs.length,by simp,Nat.zero_le _,[],aC,bI hD,.nil⟩,?_⟩
 rintro i m Hc ⟨rfl,hi,ys,hys,sm,pr⟩
 by_cases hlt:i<xs.length
 ·refine .inr ⟨⟨xs,xs[i],sm.seq hx,by simp[hlt]⟩,Pv (i+1),fun H' p'=>⟨xs.length - (i+1),by omega,rfl,hlt,p'⟩,fun x H' y=>?_⟩
  obtain⟨T,z,rfl,hT,rfl,hz⟩:=y
  have s0:Same Hc (upd Hc T (.tup [.int (i:Nat),z])):=bI hT
  refine⟨T,_,rfl,bK.of aC,rfl,_,_,rfl,_,_,rfl,rfl,hw _ _,ht i z _ (hz xs (sm.seq hx)) (sm.trans s0) _ fun H3 s3=>?_⟩
  have vN:=s0.trans s3
  cases hf:flt i with
  |false=>
   rw[if_neg (by simp)]
   refine⟨ys,vN _ _ hys,sm.trans vN,?_⟩
   rw[List.range_succ,List.filter_append]
   simp only[List.filter_cons,hf,Bool.false_eq_true,if_false,List.filter_nil,List.append_nil]
   exact pr
  |true=>
   rw[if_pos rfl]
   refine he i z H3 (hz xs (sm.seq hx)) hf (sm.trans vN) _ fun y H4 s4 p4=>⟨ys,s4 _ _ (vN _ _ hys),?_,ys++[y],aC,?_,?_⟩
   ·have:=d9 pr
    have h2:((List.range i).filter flt).length≤i:=Nat.le_trans (List.length_filter_le _ _) (by simp)
    omega
   ·intro b o e
    rw[aH (bM e hD)]
    exact s4 _ _ (vN _ _ (sm _ _ e))
   ·rw[List.range_succ,List.filter_append]
    simp only[List.filter_cons,hf,if_true,List.filter_nil]
    exact qx pr (.cons p4 .nil)
 ·have e:i=xs.length:=by omega
  subst e
  exact .inl ⟨⟨xs,sm.seq hx,Nat.le_refl _⟩,hq ys Hc sm hys pr⟩
theorem KR{K:PySem.W.Frag}{a:Addr}{xs:List V}{slot:Nat}{tt:TT}{te:TE}{σ:L2.St}{H1:Hp}{D d:Addr}{s:Rung.Scheme}{Qd:Hp→Prop}(flt:Nat→Bool)(N M:Nat→Nat)(Pe:Nat→V→Hp→Prop)(hD:H1 D=none)(hx:H1 a=some (.lst xs))(h0:cD H1 d s (N 0))
 (ht:∀i x Hc,xs[i]? =some x→Near d H1 Hc→cD Hc d s (N i)→∀Qt:Bool→Hp→Prop,(∀H3,Near d Hc H3→cD H3 d s (M i)→Qt (flt i) H3)→tt ((L2.wipe σ [slot]).set slot (some x)) Hc Qt)
 (he:∀i x Hc,xs[i]? =some x→flt i=true→Near d H1 Hc→cD Hc d s (M i)→∀Qe:VK,(∀y H4,Near d Hc H4→cD H4 d s (N (i+1))→Pe i y (nw Hc H4)→Qe y H4)→te ((L2.wipe σ [slot]).set slot (some x)) Hc Qe)
 (hM:∀i,M i≤N (i+1))(mono:∀i y G G',Same G G'→Pe i y G→Pe i y G')(hn:xs.length≤sizeLine)
 (hq:∀ys H',Near d H1 H'→cD H' d s (N xs.length)→H' D=some (.lst ys)→Paired (fun j y=>Pe j y (nw (upd H1 D (.lst [])) H')) ((List.range xs.length).filter flt) ys→Qd H'):
 ∃W:Nat→Nat→Hp→Prop,(∃m,W 0 m (upd H1 D (.lst [])))∧∀i m H,W i m H→
  ((iH K a).stop i H∧Qd H)∨((iH K a).go i H∧∃Nx:Hp→Prop,(∀H',Nx H'→∃m',m'<m∧W (i+1) m' H')∧∀x H',(iH K a).fY i H x H'→aJ slot x (L2.wipe σ [slot]) H' fun σ2 H2=>L2.wipe σ2 [slot]=L2.wipe σ [slot]∧tt σ2 H2 fun b H3=>
    if b=true then te σ2 H3 fun y H4=>∃acc,H4 D=some (.lst acc)∧acc.length<sizeLine∧Nx (upd H4 D (.lst (acc++[y]))) else Nx H3):=by
 have hdn:=h0.ne
 have vO:D≠d:=fun z=>hdn (by rw[←z];exact hD)
 have had:a≠d:=fun z=>by obtain⟨k,h1,_⟩:=h0;rw[←z,hx] at h1;cases h1
 let Pv:Nat→Hp→Prop:=fun i Hc=>∃ys,Hc D=some (.lst ys)∧Near d H1 Hc∧cD Hc d s (N i)∧Paired (fun j y=>Pe j y (nw (upd H1 D (.lst [])) Hc)) ((List.range i).filter flt) ys
 refine⟨fun i m Hc=>m=xs.length - i∧i≤xs.length∧Pv i Hc,⟨xs.length,by simp,Nat.zero_le _,[],aC,(Near.refl d H1).upd hD,h0.upd hD,.nil⟩,?_⟩
 rintro i m Hc ⟨rfl,hi,ys,hys,sm,dr,pr⟩
 have hxc:=sm.get had hx
 by_cases hlt:i<xs.length
 ·refine .inr ⟨⟨xs,xs[i],au.of hxc,by simp[hlt]⟩,Pv (i+1),fun H' p'=>⟨xs.length - (i+1),by omega,rfl,hlt,p'⟩,fun x H' y=>?_⟩
  obtain⟨e,hxi⟩:=y
  subst e
  have hx':=hxi xs (au.of hxc)
  refine⟨JD σ slot x,ht i x _ hx' sm dr _ fun H3 s3 d3=>?_⟩
  have keep:∀{G:Hp},Near d H' G→Same (nw (upd H1 D (.lst [])) H') (nw (upd H1 D (.lst [])) G):=fun {G} sg b o e=>by
   obtain⟨e1,e2⟩:=cu e
   have hb:b≠D:=fun z=>by rw[z,aC] at e1;cases e1
   rw[aH hb] at e1
   refine bO (by rw[aH hb];exact e1) (sg.get (fun z=>hdn (by rw[←z];exact e1)) e2)
  cases hf:flt i with
  |false=>
   rw[if_neg (by simp)]
   refine⟨ys,s3.get vO hys,sm.trans s3,d3.le (hM i),?_⟩
   rw[List.range_succ,List.filter_append]
   simp only[List.filter_cons,hf,Bool.false_eq_true,if_false,List.filter_nil,List.append_nil]
   exact Paired.dY pr fun j y p=>mono j y _ _ (keep s3) p
  |true=>
   rw[if_pos rfl]
   refine he i x H3 hx' hf (sm.trans s3) d3 _ fun y H4 s4 d4 p4=>⟨ys,s4.get vO (s3.get vO hys),?_,ys++[y],aC,?_,d4.put vO,?_⟩
   ·have:=d9 pr
    have h2:((List.range i).filter flt).length≤i:=Nat.le_trans (List.length_filter_le _ _) (by simp)
    omega
   ·exact(sm.trans (s3.trans s4)).upd hD
   ·rw[List.range_succ,List.filter_append]
    simp only[List.filter_cons,hf,if_true,List.filter_nil]
    have up:∀{l:List V},Same (nw (upd H1 D (.lst [])) H4) (nw (upd H1 D (.lst [])) (upd H4 D (.lst l))):=fun {l} b o e=>by
     obtain⟨e1,e2⟩:=cu e
     have hb:b≠D:=fun z=>by rw[z,aC] at e1;cases e1
     exact bO e1 (by rw[aH hb];exact e2)
    refine qx (Paired.dY pr fun j y p=>mono j y _ _ ((keep (s3.trans s4)).trans up) p) (.cons (mono i y _ _ ?_ p4) .nil)
    intro b o e
    obtain⟨e1,e2⟩:=cu e
    have hb:b≠D:=fun z=>by
     rw[z,s3.get vO hys] at e1
     cases e1
    have hb1:H1 b=none:=sm.free dr.ne (s3.free d3.ne e1)
    exact bO (by rw[aH hb];exact hb1) (by rw[aH hb];exact e2)
 ·have e:i=xs.length:=by omega
  subst e
  exact .inl ⟨⟨xs,au.of hxc,Nat.le_refl _⟩,hq ys Hc sm dr hys pr⟩
theorem alf(u v w:V):[u,v,w].length≤sizeLine:=by show 3≤sizeLine;decide
theorem bT(l:List Nat):(nV l).length=l.length:=by unfold nV;rw[List.length_map]
theorem iM{l:List Nat}{i:Nat}{v:V}(h:(nV l)[i]? =some v):∃n,l[i]? =some n∧v= .int (n:Int):=by
 unfold nV at h
 rw[List.getElem?_map] at h
 obtain⟨n,h1,h2⟩:=Option.map_eq_some_iff.mp h
 exact⟨n,h1,h2.symm⟩
theorem jh(a b:List Nat):nV (a++b)=nV a++nV b:=by unfold nV;rw[List.map_append]
theorem aiX(x m:Nat):Builtin.bitAnd (x:Int) (Builtin.bitNot (m:Int))=((x - (x&&& m):Nat):Int):=by
 have h1:¬(0:Int)≤Builtin.bitNot (m:Int):=by
  unfold Builtin.bitNot
  omega
 have h2:Builtin.bitNot (Builtin.bitNot (m:Int))=(m:Int):=by
  unfold Builtin.bitNot
  omega
 unfold Builtin.bitAnd
 rw[decide_eq_true (by omega:(0:Int)≤(x:Int)),decide_eq_false h1,h2]
 simp only[Int.toNat_natCast]
 have:=MB.ajR x m
 omega
theorem uP(a b:Nat):Builtin.bitAnd (a:Int) (b:Int)=((a&&& b:Nat):Int):=by rw[PyProof.Rows.bitAnd_pp (Int.natCast_nonneg _) (Int.natCast_nonneg _),Int.toNat_natCast,Int.toNat_natCast]
theorem Bf(a b:Nat):Builtin.bitOr (a:Int) (b:Int)=((a ||| b:Nat):Int):=by rw[Bits.ahl (Int.natCast_nonneg _) (Int.natCast_nonneg _),Int.toNat_natCast,Int.toNat_natCast]
theorem aj7(a b:Nat):(a^^^b)+(a&&& b)=a ||| b:=by
 have h:=MB.VN (a^^^b) (a&&& b)
 have e1:(a^^^b) ||| (a&&& b)=a ||| b:=Nat.eq_of_testBit_eq fun v=>by
  simp only[Nat.testBit_or,Nat.testBit_xor,Nat.testBit_and]
  cases a.testBit v<;>cases b.testBit v<;>rfl
 have e2:(a^^^b)&&& (a&&& b)=0:=Nat.eq_of_testBit_eq fun v=>by
  simp only[Nat.testBit_xor,Nat.testBit_and,Nat.zero_testBit]
  cases a.testBit v<;>cases b.testBit v<;>rfl
 rw[e1,e2] at h
 omega
theorem Ax(a b:Nat):Builtin.bitXor (a:Int) (b:Int)=((a^^^b:Nat):Int):=by
 show Builtin.bitOr (a:Int) (b:Int) - Builtin.bitAnd (a:Int) (b:Int)=_
 rw[uP,Bf]
 have:=aj7 a b
 omega
section
variable{K:PySem.W.Frag}{mg:Str→Option Value}{A:Ad}
theorem aeM(T:Tx K mg A)(vs:List V)(H:Hp)(Q:VK)(E:XK)(h:qz vs H Q E):yx K A {nx:=fun _ H'=>Q .non H',rt:=Q} (L2.start ["relay"] vs) H:=by
 obtain⟨j,rfl,hj,q⟩:=h
 show yx K A _ [some (.int j)] H
 unfold yx
 walk_at"rd"
 have e:(16+(j:Int)).toNat=16+j:=by omega
 refine⟨⟨by omega,by omega,by decide⟩,?_⟩
 rw[e,Int.one_mul,two_pow_cast]
 exact q
theorem ac2(T:Tx K mg A)(vs:List V)(H:Hp)(Q:VK)(E:XK)(h:Fz A vs H Q E):xq K A {nx:=fun _ H'=>Q .non H',rt:=Q} (L2.start ["contact","state"] vs) H:=by
 obtain⟨v,c,x,rfl,⟨b,dx,n,rfl,hb,_⟩,q⟩:=h
 show xq K A _ [some (.ref b),some (.int x)] H
 unfold xq
 walk_at"rd"
 simp only[hb,T.m9,T.tE,T.wJ,Uj,afH,Option.some.injEq,HO.ins.injEq,exists_and_left,exists_eq_left',true_and,and_assoc,V.int.injEq,jw]
 refine⟨by omega,?_⟩
 have e:Builtin.bitAnd ((x:Int) / 2^(c.var:Int).toNat) 1=((x / 2^c.var % 2:Nat):Int):=by
  rw[PyProof.Rows.bitAnd_m1,Int.toNat_natCast,two_pow_cast]
  omega
 rw[e]
 have ec:(!decide ((((x / 2^c.var % 2:Nat):Int))=((pO c:Nat):Int)))=c.closed x:=by
  unfold Rung.Contact.closed Rung.State.on pO
  have h2:x / 2^c.var % 2<2:=Nat.mod_lt _ (by decide)
  cases hc:c.closer<;>(rcases(by omega:x / 2^c.var % 2=0∨x / 2^c.var % 2=1) with z|z<;>rw[z]<;>decide)
 rw[ec]
 exact q
theorem YH{kvs:List (Key×V)}{x:Nat}{u:V}{y:Nat}{v:V}(h:aQ (putK kvs (Sum.inl (x:Int)) u) (Sum.inl (y:Int))=some v):(y=x∧v=u)∨aQ kvs (Sum.inl (y:Int))=some v:=by
 by_cases e:y=x
 ·subst e
  rw[nu,if_pos rfl] at h
  exact .inl ⟨rfl,(Option.some.inj h).symm⟩
 ·rw[nu,if_neg (fun z=>e (by have:=Sum.inl.inj z;omega))] at h
  exact .inr h
theorem LC(kvs:List (Key×V))(k:Key)(u:V):(putK kvs k u).length≤kvs.length+1:=by
 have:=xR [(k,u)] kvs
 exact this
theorem afJ(s:Rung.Scheme)(x:Nat):(((List.range s.relays.length).filter (MP.draw s x)).map fun j=>((2^(16+j):Nat):Int)).sum=((MP.dX s x:Nat):Int):=by
 unfold MP.dX
 generalize (List.range s.relays.length).filter (MP.draw s x)=l
 induction l with
 |nil=>rfl
 |cons a r ih=>
  rw[List.map_cons,List.map_cons,List.sum_cons,List.sum_cons,ih]
  omega
theorem ach(T:Tx K mg A)(vs:List V)(H:Hp)(Q:VK)(E:XK)(h:qp A vs H Q E):wH K A {nx:=fun _ H'=>Q .non H',rt:=Q} (L2.start ["scheme","state","live","relay","coil"] vs) H:=by
 obtain⟨v,s,x,d,n,rfl,hS,hnn,q⟩:=h
 obtain⟨kvs,hd,hkl,hkv⟩:=hS.d8
 obtain⟨a,dx,lc,lk,cs,rfl,ha',hc',hk',hp'⟩:=id hS.at_
 obtain⟨had,ha⟩:=dH ha'
 obtain⟨hcd,hc⟩:=dH hc'
 have hw:=hS.well
 show wH K A _ [some (.ref a),some (.int x),none,none,none] H
 have fin:∀(σ:L2.St) (H2:Hp) (oh:List (Key×V)),σ[0]? =some (some (.ref a))→σ[1]? =some (some (.int x))→Near d H H2→H2 d=some (.dK oh)→oh.length≤n+1→(∀(y:Nat) (v:V),aQ oh (Sum.inl (y:Int))=some v→v= .int ((MP.dX s y:Nat):Int))→aQ oh (Sum.inl (x:Int))≠none→
  Ec K A {nx:=fun _ H'=>Q .non H',rt:=Q} σ H2:=by
  intro σ H2 oh h0 h1 nr h2 hl hv hn
  have ha2:=nr.get had ha
  unfold Ec
  simp only[aL,kW,aP,aj,h0,h1,Option.some.injEq,exists_eq_left',V.ref.injEq]
  obtain⟨u,hu⟩:∃u,aQ oh (Sum.inl (x:Int))=some u:=by
   cases e:aQ oh (Sum.inl (x:Int)) with
   |none=>exact absurd e hn
   |some u=>exact⟨u,rfl⟩
  have hg:=dG.k (k:=Sum.inl (x:Int)) h2
  rw[hu] at hg
  exact⟨a,_,dx,_,_,rfl,ha2,T.cW,T.qu,Iw _ _ _ _ _,d,u,rfl,hg,q _ H2 nr ⟨oh,h2,hl,hv⟩ (hv x u hu)⟩
 unfold wH
 walk_at"rd"
 refine⟨_,dx,_,ha,T.cW,T.qu,_,Iw _ _ _ _ _,d,rfl,_,dG.k (k:=Sum.inl (x:Int)) hd,?_⟩
 cases hv:aQ kvs (Sum.inl (x:Int)) with
 |some u=>
  rw[if_neg (by simp)]
  exact fin _ H kvs rfl rfl (Near.refl _ _) hd (by omega) hkv (by rw[hv];simp)
 |none=>
  rw[if_pos (by simp)]
  refine⟨.ref a,s,x,d,rfl,hS.sees,hw,fun v2 H1 s1 ⟨lv,kv1,ev,hlv,hmem⟩=>?_⟩
  subst ev
  have alg:=bW _ _ _ _ hlv
  have hlen:(nV (s.relays.map (·.node))).length=s.relays.length:=by rw[bT,List.length_map]
  refine⟨_,rfl,a,_,dx,_,_,rfl,s1 _ _ ha,T.cW,T.iJ,j7 _ _ _ _ _,lc,_,rfl,au.of (s1 _ _ hc),fun D hD=>?_⟩
  refine ahN (MP.draw s x) (fun j y=>y= .int ((2^(16+j):Nat):Int)) hD (au.of (s1 _ _ hc)) (fun u w=>rfl) (fun i y Hc hi sm Qt g=>?_) (fun i y Hc hi hf sm Qe g=>?_) (by rw[hlen,sizeLine_eq];have:=hw.rel;omega) ?_
  ·obtain⟨k,hk2,rfl⟩:=iM hi
   rw[List.getElem?_map] at hk2
   obtain⟨r,hr,rfl⟩:=Option.map_eq_some_iff.mp hk2
   refine⟨_,rfl,_,rfl,lv,_,rfl,dG.k (k:=Sum.inl (r.node:Int)) (sm _ _ alg),_,rfl,?_⟩
   have e:MP.draw s x i=(aQ kv1 (Sum.inl (r.node:Int))).isSome:=by
    unfold MP.draw
    rw[hr]
    dsimp only
    rw[Bool.eq_iff_iff,hmem,ML.aht hw.low]
   rw[←e]
   exact g Hc (Same.refl _)
  ·have hi':=(List.getElem?_eq_some_iff.mp hi).1
   rw[hlen] at hi'
   have:=hw.rel
   exact⟨_,rfl,i,rfl,by omega,g _ Hc (Same.refl _) rfl⟩
  ·intro ys H2 s2 hy pr
   have ey:=lB pr
   rw[hlen] at ey
   have s12:=s1.trans s2
   have hsum:au K H2 D ((((List.range s.relays.length).filter (MP.draw s x)).map fun j=>((2^(16+j):Nat):Int)).map V.int):=au.of (by rw[hy,ey,List.map_map];rfl)
   refine⟨D,_,rfl,hsum,_,rfl,a,_,dx,_,_,rfl,s12 _ _ ha,T.cW,T.qu,Iw _ _ _ _ _,_,rfl,d,_,rfl,jx.k (k:=Sum.inl (x:Int)) (s12 _ _ hd) (by rw[sizeLine_eq];omega),?_⟩
   refine fin _ _ (putK kvs (Sum.inl (x:Int)) _) rfl rfl ((Near.of s12).ald) aC (Nat.le_trans (LC _ _ _) (by omega)) (fun y v hy'=>?_) ?_
   ·rcases YH hy' with⟨rfl,rfl⟩|z
    ·rw[afJ]
    ·exact hkv y v z
   ·rw[nu,if_pos rfl]
    simp
theorem abR(T:Tx K mg A)(vs:List V)(H:Hp)(Q:VK)(E:XK)(h:DW A vs H Q E):wu K A {nx:=fun _ H'=>Q .non H',rt:=Q} (L2.start ["scheme","state","relay","bit"] vs) H:=by
 obtain⟨v,s,x,j,d,n,rfl,hS,hn,hj,q⟩:=h
 show wu K A _ [some v,some (.int x),some (.int j),none] H
 have hrel:=hS.well.rel
 unfold wu Pu
 walk_at"rd"
 refine⟨j,rfl,by omega,?_⟩
 refine⟨_,rfl,v,s,x,d,n,rfl,hS,hn,fun v' H' nr dr ev=>?_⟩
 subst ev
 refine⟨_,rfl,_,rfl,q _ H' nr dr ?_⟩
 have e1:=aiX x (2^(16+j))
 rw[e1,uP,Bf,MP.afs s x j hj]
def aiY(v:V)(s:Rung.Scheme)(x:Nat)(a L d:Addr)(n:Nat)(o:List Nat)(H:Hp):Nat→L2.St→Hp→Prop:=fun i σ H'=>∃(r:Option V),σ=[some v,some (.int x),some (.ref a),some (.ref L),some (.int ((Rung.pass s (o.take i) x:Nat):Int)),r]∧Near d H H'∧cD H' d s (n+i)∧H' L=some (.lst (nV (Rung.rungs s (o.take i) x)))
theorem Js(s:Rung.Scheme):∀(o:List Nat) (x j:Nat),Rung.rungs s (o++[j]) x=Rung.rungs s o x++[Rung.rung s (Rung.pass s o x) j]
 | [],x,j=>rfl
 |k::r,x,j=>by
  show Rung.rung s x k::Rung.rungs s (r++[j]) (Rung.rung s x k)=_
  rw[Js s r]
  rfl
theorem Xh(s:Rung.Scheme)(o:List Nat)(x j:Nat):Rung.pass s (o++[j]) x=Rung.rung s (Rung.pass s o x) j:=by
 unfold Rung.pass
 rw[List.foldl_append]
 rfl
theorem take_snoc{α:Type}{l:List α}{i:Nat}{x:α}(h:l[i]? =some x):l.take (i+1)=l.take i++[x]:=by
 rw[List.take_succ,h]
 rfl
theorem ur(s:Rung.Scheme):∀(o:List Nat) (x:Nat),(Rung.rungs s o x).length=o.length
 | [],_=>rfl
 |_::r,x=>by
  show(Rung.rungs s r _).length+1=r.length+1
  rw[ur s r]
theorem abE(T:Tx K mg A)(vs:List V)(H:Hp)(Q:VK)(E:XK)(h:v8 A vs H Q E):Dr K A {nx:=fun _ H'=>Q .non H',rt:=Q} (L2.start ["scheme","state","order","states","now","relay"] vs) H:=by
 obtain⟨v,s,x,a,o,d,n,rfl,hS,hn,ha,hol,ho,q⟩:=h
 have had:a≠d:=fun z=>by obtain⟨k,h1,_⟩:=hS.d8;rw[←z,ha] at h1;cases h1
 show Dr K A _ [some v,some (.int x),some (.ref a),none,none,none] H
 refine⟨Nat.zero_le _,fun L hL=>?_⟩
 show Pg K A _ [some v,some (.int x),some (.ref a),some (.ref L),none,none] (upd H L (.lst []))
 refine⟨_,rfl,?_⟩
 show Pb K A _ [some v,some (.int x),some (.ref a),some (.ref L),some (.int x),none] (upd H L (.lst []))
 refine⟨_,rfl,a,rfl,⟨_,au.of (bI hL _ _ ha)⟩,lE (xs:=nV o) (aiY v s x a L d n o H) ⟨none,rfl,(Near.refl d H).upd hL,hS.d8.upd hL,aC⟩ (fun i σ H' _ ⟨_,_,s',_,_⟩=>au.of (s'.get had ha)) ?_ ?_⟩
 ·rintro i y σ H1 hi ⟨r,rfl,s1,d1,hl⟩
  obtain⟨j,hj,rfl⟩:=iM hi
  have hjl:=ho j (List.mem_of_getElem? hj)
  have hil:i<o.length:=(List.getElem?_eq_some_iff.mp hj).1
  unfold O_
  walk_at"rd"
  have hLd:L≠d:=fun z=>hS.d8.ne (by rw[←z];exact hL)
  refine⟨v,s,_,j,d,n+i,rfl,hS.near s1 d1,by omega,hjl,fun v' H2 s2 d2 rr=>?_⟩
  subst rr
  have hl2:=s2.get hLd hl
  refine⟨.inl ⟨_,au.of hl2⟩,_,hl2,?_,some (.int (j:Int)),?_,(s1.trans s2).upd hL,d2.put hLd,?_⟩
  ·rw[bT,ur,List.length_take,sizeLine_eq]
   omega
  ·rw[take_snoc hj,Xh]
  ·rw[aC,take_snoc hj,Js,jh]
   rfl
 ·rintro σ H1 ⟨r,rfl,s1,d1,hl⟩
  rw[bT,List.take_length] at hl
  rw[bT] at d1
  simp only[Pa]
  walk_at"rd"
  exact q _ H1 s1 d1 ⟨L,rfl,bO hL hl⟩
theorem afK(s:Rung.Scheme)(o:List Nat)(x j:Nat):∃l,Rung.rungs s (o++[j]) x=l++[Rung.pass s (o++[j]) x]:=⟨_,by rw[Js,Xh]⟩
theorem abS(T:Tx K mg A)(vs:List V)(H:Hp)(Q:VK)(E:XK)(h:wj A vs H Q E):wA K A {nx:=fun _ H'=>Q .non H',rt:=Q} (L2.start ["scheme","state","order","states"] vs) H:=by
 obtain⟨v,s,x,a,o,d,n,rfl,hS,hn,ha,hol,ho,q⟩:=h
 show wA K A _ [some v,some (.int x),some (.ref a),none] H
 unfold wA Px
 walk_at"rd"
 refine⟨v,s,x,a,o,d,n,rfl,hS,hn,ha,hol,ho,fun v' H' s' d' ⟨r,er,hr⟩=>?_⟩
 subst er
 have hr':=bW _ _ _ _ hr
 refine⟨r,rfl,_,.inl (au.of hr'),?_⟩
 rw[bT,ur]
 rcases List.eq_nil_or_concat o with rfl|⟨o',j,rfl⟩
 ·rw[if_neg (by simp)]
  exact q _ H' s' d' rfl
 ·rw[if_pos (by simp only[List.concat_eq_append,List.length_append,List.length_cons,List.length_nil];omega)]
  rw[List.concat_eq_append] at *
  obtain⟨l,el⟩:=afK s o' x j
  refine⟨_,rfl,_,au.of hr',.int ((Rung.pass s (o'++[j]) x:Nat):Int),?_,q _ H' s' d' rfl⟩
  rw[el,jh]
  exact zx _ _
end
theorem Xi(r:Nat):∀(xs:List V) (p:List Rung.Line),xs.length=p.length→((List.range xs.length).filter fun i=>match p[i]? with
 |some l=>l.sort==r
 |none=>false).map (fun i=>xs.getD i .non)=fX xs p r
 | [],[],_=>rfl
 | [],_::_,h=>by simp at h
 |_::_,[],h=>by simp at h
 |x::xs,l::p,h=>by
  have ih:=Xi r xs p (by simpa using h)
  rw[List.length_cons,List.range_succ_eq_map,List.filter_cons]
  have e1:((List.range xs.length).map Nat.succ).filter (fun i=>match(l::p)[i]? with
   |some l=>l.sort==r
   |none=>false)=((List.range xs.length).filter fun i=>match p[i]? with
   |some l=>l.sort==r
   |none=>false).map Nat.succ:=by
   rw[List.filter_map]
   rfl
  have e2:(((List.range xs.length).filter fun i=>match p[i]? with
   |some l=>l.sort==r
   |none=>false).map Nat.succ).map (fun i=>(x::xs).getD i .non)=fX xs p r:=by
   rw[List.map_map,←ih]
   rfl
  rw[e1]
  show(List.map _ (if(l.sort==r)=true then _ else _))=fX (x::xs) (l::p) r
  have e3:fX (x::xs) (l::p) r=(if(l.sort==r)=true then x::fX xs p r else fX xs p r):=by
   unfold fX
   rw[List.zip_cons_cons,List.filter_cons]
   dsimp only
   split<;>rfl
  rw[e3]
  split
  ·rw[List.map_cons,e2]
   rfl
  ·exact e2
theorem qI{F:V→Rung.Line→Prop}(r:Nat):∀{xs:List V} {p:List Rung.Line},Paired F xs p→Paired F (fX xs p r) (p.filter fun l=>l.sort==r)
 |_,_,.nil=>.nil
 |_,_,@Paired.cons _ _ _ x l xs p h t=>by
  have ih:=qI r t
  have e3:fX (x::xs) (l::p) r=(if(l.sort==r)=true then x::fX xs p r else fX xs p r):=by
   unfold fX
   rw[List.zip_cons_cons,List.filter_cons]
   dsimp only
   split<;>rfl
  rw[e3,List.filter_cons]
  split
  ·exact .cons h ih
  ·exact ih
section
variable{K:PySem.W.Frag}{mg:Str→Option Value}{A:Ad}
theorem ac3(T:Tx K mg A)(vs:List V)(H:Hp)(Q:VK)(E:XK)(h:oO A vs H Q E):FJ K A {nx:=fun _ H'=>Q .non H',rt:=Q} (L2.start ["rows","rank","row"] vs) H:=by
 obtain⟨a,xs,p,r,rfl,ha,pr,hle,q⟩:=h
 show FJ K A _ [some (.ref a),some (.int r),none] H
 have hlen:=d9 pr
 refine⟨_,rfl,a,rfl,⟨_,au.of ha⟩,fun D hD=>?_⟩
 refine lF (fun i=>match p[i]? with
  |some l=>l.sort==r
  |none=>false) (fun j y _=>y=xs.getD j .non) hD (au.of ha) (fun i x Hc hi sm Qt h=>?_) (fun i x Hc hi _ sm Qe h=>?_) (fun _ _ _ _ _ p=>p) (by rw[sizeLine_eq];omega) ?_
 ·obtain⟨l,hl,b,dx,n,rfl,hb,hn⟩:=gH pr hi
  have hb1:=sm _ _ hb
  simp only[L2.wipe,List.set_cons_succ,List.set_cons_zero]
  walk_at"rd"
  simp only[hb1,T.eU,T.gZ,jJ,Option.some.injEq,HO.ins.injEq,exists_and_left,exists_eq_left',true_and,and_assoc,V.int.injEq,jw]
  have h':=h Hc (Same.refl _)
  rw[hl] at h'
  have e:decide ((l.sort:Int)=(r:Int))=(l.sort==r):=by
   rw[Bool.eq_iff_iff,decide_eq_true_eq,beq_iff_eq]
   omega
  rw[e]
  exact h'
 ·exact⟨_,rfl,h _ Hc (Same.refl _) (getD_some hi).symm⟩
 ·intro ys H' sm hy gF
  have ey:=lB gF
  rw[Xi r xs p hlen] at ey
  exact q _ H' sm ⟨D,rfl,bO hD (by rw[hy,ey])⟩
def eX(b:Nat)(ns:List Rung.Name):List (Key×V):=ns.zipIdx.map fun u=>(kN u.1,V.int ((b+u.2:Nat):Int))
theorem aeN(b:Nat)(ns:List Rung.Name)(x:Rung.Name):eX b (ns++[x])=eX b ns++[(kN x,V.int ((b+ns.length:Nat):Int))]:=by
 unfold eX
 rw[List.zipIdx_append,List.map_append]
 simp
theorem Vj(b:Nat)(ns:List Rung.Name):(eX b ns).map (·.1)=ns.map kN:=by
 unfold eX
 rw[List.map_map,show((fun(x:Key×V)=>x.1)∘fun(u:Rung.Name×Nat)=>(kN u.1,V.int ((b+u.2:Nat):Int)))=kN∘Prod.fst from rfl,←List.map_map,List.zipIdx_map_fst]
theorem Xj(p:List Rung.Line):Aw p=eX 0 (namesOf p 0)++eX 16 (namesOf p 1):=by
 unfold Aw eX
 congr 1
 refine List.map_congr_left fun u _=>?_
 rw[Nat.zero_add]
theorem J5{kvs:List (Key×V)}{k:Key}(h:k∉kvs.map (·.1)):aQ kvs k=none:=by
 cases e:aQ kvs k with
 |none=>rfl
 |some v=>exact absurd (Zh e) h
theorem Jt{p:List Rung.Line}(h:Rung.firstLine p (fU p)=none){i j:Nat}{u w:Rung.Line}{x:Rung.Name}(hij:i<j)(hu:p[i]? =some u)(hw:p[j]? =some w)(gu:u.gives=some x)(gw:w.gives=some x):False:=by
 unfold Rung.firstLine at h
 rw[List.findSome?_eq_none_iff] at h
 have:=h (w,j) (List.mem_zipIdx_iff_getElem?.mpr hw)
 simp only at this
 have hb:fU p j w=true:=by
  unfold fU
  rw[gw,Bool.and_eq_true]
  refine⟨rfl,List.any_eq_true.mpr ⟨u,List.mem_of_getElem? (i:=i) (by rw[List.getElem?_take_of_lt hij];exact hu),?_⟩⟩
  rw[gu]
  simp
 rw[hb] at this
 simp at this
theorem ahO{p:List Rung.Line}(h:Rung.firstLine p (fU p)=none):p.Pairwise fun u w=>∀x,u.gives=some x→w.gives≠some x:=by
 rw[List.pairwise_iff_getElem]
 intro i j hi hj hij x gu gw
 exact Jt h hij (List.getElem?_eq_getElem hi) (List.getElem?_eq_getElem hj) gu gw
theorem Xk{p:List Rung.Line}{r:Nat}(hr:r≠3){x:Rung.Name}(h:x∈namesOf p r):∃l∈p,l.sort=r∧l.gives=some x:=by
 unfold namesOf at h
 obtain⟨l,hl,e⟩:=List.mem_map.mp h
 rw[List.mem_filter] at hl
 have hs:l.sort=r:=by simpa using hl.2
 exact⟨l,hl.1,hs,by rw[nF,if_neg (by omega),e]⟩
theorem names_nodup{p:List Rung.Line}{r:Nat}(hr:r≠3)(h:Rung.firstLine p (fU p)=none):(namesOf p r).Nodup:=by
 unfold namesOf List.Nodup
 rw[List.pairwise_map]
 have pw:=(ahO h).filter (fun l=>l.sort==r)
 refine pw.imp_of_mem fun {u w} hu hw d e=>?_
 rw[List.mem_filter] at hu hw
 have su:u.sort=r:=by simpa using hu.2
 have sw:w.sort=r:=by simpa using hw.2
 exact d (nameOf u) (by rw[nF,if_neg (by omega)]) (by rw[nF,if_neg (by omega),e])
theorem aeO{p:List Rung.Line}(h:Rung.firstLine p (fU p)=none){x:Rung.Name}(h0:x∈namesOf p 0)(h1:x∈namesOf p 1):False:=by
 obtain⟨u,hu,su,gu⟩:=Xk (by decide) h0
 obtain⟨w,hw,sw,gw⟩:=Xk (by decide) h1
 obtain⟨i,hi⟩:=List.mem_iff_getElem?.mp hu
 obtain⟨j,hj⟩:=List.mem_iff_getElem?.mp hw
 rcases Nat.lt_trichotomy i j with z|z|z
 ·exact Jt h z hi hj gu gw
 ·subst z
  rw[hi] at hj
  cases hj
  omega
 ·exact Jt h z hj hi gw gu
theorem qU{p:List Rung.Line}(hn:uH p){r:Nat}{x:Rung.Name}(h:x∈namesOf p r):Rung.isName x=true:=by
 unfold namesOf at h
 obtain⟨l,hl,e⟩:=List.mem_map.mp h
 rw[←e]
 exact hn l (List.mem_filter.mp hl).1
theorem aal{ns:List Rung.Name}{x:Rung.Name}(hx:Rung.isName x=true)(hn:∀y∈ns,Rung.isName y=true)(h:kN x∈ns.map kN):x∈ns:=by
 obtain⟨y,hy,e⟩:=List.mem_map.mp h
 rw[←(Aq (hn y hy) hx).mp e]
 exact hy
def aaD(a D l:Addr)(ys:List V)(b:Nat)(old:List (Key×V))(ns:List Rung.Name)(H:Hp):Nat→L2.St→Hp→Prop:=fun i σ H'=>∃(n r:Option V),σ=[some (.ref a),some (.ref D),n,r]∧Same H H'∧H' l=some (.lst ys)∧H' D=some (.dK (old++eX b (ns.take i)))
theorem ahP{a D l:Addr}{ys:List V}{b i:Nat}{old:List (Key×V)}{ns:List Rung.Name}{H H1:Hp}{x:Rung.Name}{n r:Option V}(hD:H D=none)(s1:Same H H1)(hl:H1 l=some (.lst ys))(hd:H1 D=some (.dK (old++eX b (ns.take i))))(hx:ns[i]? =some x)
 (new:kN x∉(old++eX b (ns.take i)).map (·.1)):aaD a D l ys b old ns H (i+1) [some (.ref a),some (.ref D),n,r] (upd H1 D (.dK (putK (old++eX b (ns.take i)) (kN x) (.int ((b+i:Nat):Int))))):=by
 have hlD:l≠D:=fun z=>by rw[z,hd] at hl;cases hl
 refine⟨n,r,rfl,cC s1 hD,by rw[aH hlD];exact hl,?_⟩
 have hlt:i<ns.length:=(List.getElem?_eq_some_iff.mp hx).1
 rw[aC,Kr _ (J5 new),take_snoc hx,aeN,List.append_assoc]
 have:(ns.take i).length=i:=by rw[List.length_take];omega
 rw[this]
theorem ac4{α:Type}{ns:List α}{i:Nat}{x:α}(hn:ns.Nodup)(h:ns[i]? =some x):x∉ns.take i:=fun hm=>by
 obtain⟨j,hj⟩:=List.mem_iff_getElem?.mp hm
 have hji:j<i:=by
  have:=(List.getElem?_eq_some_iff.mp hj).1
  rw[List.length_take] at this
  omega
 rw[List.getElem?_take_of_lt hji] at hj
 have:=aax hn hj h
 omega
theorem aam(b:Nat)(ns:List Rung.Name):(eX b ns).length=ns.length:=by unfold eX;simp
theorem J6(p:List Rung.Line)(r:Nat):(namesOf p r).length≤p.length:=by
 unfold namesOf
 rw[List.length_map]
 exact List.length_filter_le _ _
theorem ahQ{p:List Rung.Line}{r i:Nat}{l:Rung.Line}(h:(p.filter fun l=>l.sort==r)[i]? =some l):(namesOf p r)[i]? =some (nameOf l):=by
 unfold namesOf
 rw[List.getElem?_map,h]
 rfl
theorem abT(T:Tx K mg A)(vs:List V)(H:Hp)(Q:VK)(E:XK)(h:DR A vs H Q E):DX K A {nx:=fun _ H'=>Q .non H',rt:=Q} (L2.start ["rows","variables","number","row"] vs) H:=by
 obtain⟨a,xs,p,rfl,ha,pr,hle,hn,htw,q⟩:=h
 show DX K A _ [some (.ref a),none,none,none] H
 intro D hD
 show Pr K A _ [some (.ref a),some (.ref D),none,none] (upd H D (.dK []))
 have s0:Same H (upd H D (.dK [])):=bI hD
 have n0:=names_nodup (r:=0) (by decide) htw
 have n1:=names_nodup (r:=1) (by decide) htw
 have l0:=J6 p 0
 have l1:=J6 p 1
 refine⟨_,rfl,a,xs,p,0,rfl,s0 _ _ ha,Paired.dY pr (fun _ _ r=>iY.mono s0 r),hle,fun v H1 s1 ⟨l,el,hl⟩=>?_⟩
 subst el
 have s01:=s0.trans s1
 have hl1:=bW _ _ _ _ hl
 have N6:=qI 0 pr
 have hd1:H1 D=some (.dK ([]++eX 0 ((namesOf p 0).take 0))):=s1 _ _ aC
 have loop:∀(b rk:Nat) (old:List (Key×V)) (l:Addr) (H1:Hp) (rd:TS) (tv:TE) (n r:Option V),Same H H1→H1 l=some (.lst (fX xs p rk))→H1 D=some (.dK old)→(namesOf p rk).Nodup→old.length≤20001→(∀x∈namesOf p rk,kN x∉old.map (·.1))→
  (∀(i:Nat) (v3:V) (Hc:Hp) (Q':VK),Q' (.int ((b+i:Nat):Int)) Hc→tv [some (.ref a),some (.ref D),some (.int ((i:Nat):Int)),some v3] Hc Q')→
  (∀(n r:Option V) (H2:Hp),Same H H2→H2 D=some (.dK (old++eX b (namesOf p rk)))→rd {nx:=fun _ H'=>Q .non H',rt:=Q} [some (.ref a),some (.ref D),n,r] H2)→
  ∃W:Nat→Nat→L2.St→Hp→Prop,(∃m,W 0 m [some (.ref a),some (.ref D),n,r] H1)∧∀i m σ H,W i m σ H→
   ((Ite K l).stop i H∧rd {nx:=fun _ H'=>Q .non H',rt:=Q} σ H)∨((Ite K l).go i H∧∃N:L2.St→Hp→Prop,(∀σ' H',N σ' H'→∃m',m'<m∧W (i+1) m' σ' H')∧∀x H',(Ite K l).fY i H x H'→iB K 2 (dD (aJ 2) (dD (aJ 3) iz)) x σ H' fun σ2 H2=>
     jo (aj 1) (aP K (aj 3) "name") tv {nx:=N,rt:=Q,ct:=N,bk:=rd {nx:=fun _ H'=>Q .non H',rt:=Q}} σ2 H2):=by
  intro b rk old l H1 rd tv n r s1 hl hd nd ho hnew htv hrd
  have N6:=qI rk pr
  have hlen:=d9 N6
  have hnl:(fX xs p rk).length=(namesOf p rk).length:=by rw[hlen];unfold namesOf;rw[List.length_map]
  have hnp:=J6 p rk
  refine qQ (D:={nx:=rd {nx:=fun _ H'=>Q .non H',rt:=Q},rt:=Q}) (aaD a D l (fX xs p rk) b old (namesOf p rk) H) ⟨n,r,rfl,s1,hl,by rw[List.take_zero];simpa [eX] using hd⟩ (fun i σ H' _ ⟨_,_,_,_,hl',_⟩=>au.of hl') ?_ ?_
  ·rintro i x σ H2 H3 hi ⟨n',r',rfl,s2,hl2,hd2⟩ s3
   obtain⟨u,hu,bb,dx,nn,rfl,hb,_⟩:=gH N6 hi
   have jZ:=s2.trans s3
   have hb3:=jZ _ _ hb
   have hnm:=ahQ hu
   refine htv i _ H3 _ ?_
   walk_at"rd"
   simp only[hb3,T.eU,T.jH,nD,Option.some.injEq,HO.ins.injEq,exists_and_left,exists_eq_left',true_and,and_assoc,V.int.injEq,jw]
   have hil:i<(namesOf p rk).length:=(List.getElem?_eq_some_iff.mp hnm).1
   have hkl:(old++eX b ((namesOf p rk).take i)).length<sizeLine:=by
    rw[List.length_append,aam,List.length_take,sizeLine_eq]
    omega
   refine⟨_,jx.k (k:=kN (nameOf u)) (s3 _ _ hd2) hkl,ahP hD jZ (s3 _ _ hl2) (s3 _ _ hd2) hnm ?_⟩
   rw[List.map_append,Vj,List.mem_append]
   rintro(z|z)
   ·exact hnew _ (List.mem_of_getElem? hnm) z
   ·exact ac4 nd hnm (aal (qU hn (List.mem_of_getElem? hnm)) (fun y hy=>qU hn (List.mem_of_mem_take hy)) z)
  ·rintro σ H2 ⟨n',r',rfl,s2,hl2,hd2⟩
   rw[hnl,List.take_length] at hd2
   exact hrd n' r' H2 s2 hd2
 refine⟨l,_,rfl,au.of hl1,loop 0 0 [] l H1 (Pq K A) (aj 2) none none s01 hl1 hd1 n0 (by simp) (by simp) (fun i v3 Hc Q' hq=>⟨_,rfl,by rw[Nat.zero_add] at hq;exact hq⟩) ?_⟩
 intro n r H2 s2 hd2
 rw[List.nil_append] at hd2
 refine⟨_,rfl,a,xs,p,1,rfl,s2 _ _ ha,Paired.dY pr (fun _ _ r=>iY.mono s2 r),hle,fun v H3 s3 ⟨l',el,hl'⟩=>?_⟩
 subst el
 have jZ:=s2.trans s3
 have hl3:=bW _ _ _ _ hl'
 refine⟨l',_,rfl,au.of hl3,loop 16 1 (eX 0 (namesOf p 0)) l' H3 (Pn K A) (aG (bx fun i j=>.int (i+j)) (tC (V.int 16)) (aj 2)) n r jZ hl3 (s3 _ _ hd2) n1 (by rw[aam];omega) ?_ ?_ ?_⟩
 ·intro x hx hm
  rw[Vj] at hm
  exact aeO htw (aal (qU hn hx) (fun y hy=>qU hn hy) hm) hx
 ·intro i v3 Hc Q' hq
  refine⟨_,rfl,16,(i:Int),rfl,rfl,?_⟩
  show Q' (.int (16+(i:Int))) Hc
  rw[show(16:Int)+(i:Int)=((16+i:Nat):Int) by omega]
  exact hq
 ·intro n' r' H4 s4 vP
  refine⟨_,rfl,q _ H4 s4 ⟨D,rfl,bO hD ?_⟩⟩
  rw[vP,Xj]
end
theorem Bg{α β:Type}{f:α→Option β}{p:α→Bool}{g:α→β}(h:∀l,f l=if p l=true then some (g l) else none):∀l:List α,l.filterMap f=(l.filter p).map g
 | []=>rfl
 |a::r=>by
  rw[List.filterMap_cons,h a,List.filter_cons,Bg h r]
  cases p a<;>simp
def aaE(l:Rung.Line):Rung.Relay:=match l with
 | .relay r=>r
 |_=>⟨[],0,0,0⟩
def eN(p:List Rung.Line)(l:Rung.Line):Rung.Contact:=match l with
 | .contact c x a b=>⟨a,b,c,(Rung.varOf p x).getD 0⟩
 |_=>⟨0,0,false,0⟩
theorem Ay(p:List Rung.Line):(Rung.schemeOf p).inputs=(p.filter fun l=>l.sort==0).map nameOf:=by
 refine Bg (fun l=>?_) p
 cases l<;>rfl
theorem uQ(p:List Rung.Line):(Rung.schemeOf p).relays=(p.filter fun l=>l.sort==1).map aaE:=by
 refine Bg (fun l=>?_) p
 cases l<;>rfl
theorem Az(p:List Rung.Line):(Rung.schemeOf p).contacts=(p.filter fun l=>l.sort==3).map (eN p):=by
 refine Bg (fun l=>?_) p
 cases l<;>rfl
theorem agV(p:List Rung.Line):(Rung.schemeOf p).relays.map (·.node)=(p.filter fun l=>l.sort==1).map fun l=>(gM l).headD 0:=by
 rw[uQ,List.map_map]
 refine List.map_congr_left fun l hl=>?_
 have hs:l.sort=1:=by simpa using(List.mem_filter.mp hl).2
 cases l<;>first|rfl|(simp[Rung.Line.sort] at hs)
theorem aiZ(p:List Rung.Line):(Rung.schemeOf p).inputs.length=(namesOf p 0).length:=by rw[Ay];rfl
theorem ai0(p:List Rung.Line):(Rung.schemeOf p).relays.length=(namesOf p 1).length:=by rw[uQ];unfold namesOf;rw[List.length_map,List.length_map]
theorem LK(b:Nat)(x:Rung.Name)(hx:Rung.isName x=true):∀(ns:List Rung.Name) (k:Nat),(∀y∈ns,Rung.isName y=true)→aQ ((ns.zipIdx k).map fun u=>(kN u.1,V.int ((b+u.2:Nat):Int))) (kN x)=(ns.findIdx? fun y=>y==x).map fun i=>V.int ((b+(k+i):Nat):Int)
 | [],_,_=>rfl
 |y::r,k,h=>by
  have hy:=h y (List.mem_cons_self ..)
  rw[List.zipIdx_cons,List.map_cons,List.findIdx?_cons]
  by_cases e:y=x
  ·subst e
   rw[iK rfl]
   simp
  ·rw[jj (fun z=>e ((Aq hy hx).mp z)),LK b x hx r (k+1) fun z hz=>h z (List.mem_cons_of_mem _ hz)]
   have:(y==x)=false:=by simpa using e
   simp only[this,Bool.false_eq_true,if_false,Option.map_map]
   congr 1
   funext i
   simp only[Function.comp_def]
   congr 2
   omega
theorem V9{p:List Rung.Line}{r:Nat}(hr:r≠3)(x:Rung.Name):((namesOf p r).findIdx? fun y=>y==x)=(p.filter fun(l:Rung.Line)=>l.sort==r).findIdx? fun(l:Rung.Line)=>l.gives==some x:=by
 unfold namesOf
 rw[List.findIdx?_map]
 have gen:∀l:List Rung.Line,(∀m∈l,m.sort=r)→l.findIdx? ((fun y=>y==x)∘nameOf)=l.findIdx? fun(l:Rung.Line)=>l.gives==some x:=by
  intro l
  induction l with
  |nil=>intro _;rfl
  |cons m t ih=>
   intro h
   rw[List.findIdx?_cons,List.findIdx?_cons,ih fun z hz=>h z (List.mem_cons_of_mem _ hz)]
   have hm:=h m (List.mem_cons_self ..)
   have e:((fun y=>y==x)∘nameOf) m=(m.gives==some x):=by
    rw[nF,if_neg (by omega),Function.comp_def,Bool.eq_iff_iff,beq_iff_eq,beq_iff_eq,Option.some.injEq]
   rw[e]
 exact gen _ fun m hm=>by
  have:=(List.mem_filter.mp hm).2
  simpa using this
theorem Vk(l m:List (Key×V))(k:Key):aQ (l++m) k=match aQ l k with
 |some v=>some v
 |none=>aQ m k:=by
 unfold aQ
 rw[List.find?_append]
 cases l.find? fun kv=>decide (kv.1=k)<;>rfl
theorem ahR{p:List Rung.Line}(hn:uH p){x:Rung.Name}(hx:Rung.isName x=true):aQ (Aw p) (kN x)=(Rung.varOf p x).map fun v=>V.int ((v:Nat):Int):=by
 rw[Xj,Vk]
 unfold eX Rung.varOf
 rw[LK 0 x hx _ 0 (fun y hy=>qU hn hy),LK 16 x hx _ 0 (fun y hy=>qU hn hy),V9 (by decide),V9 (by decide)]
 cases(p.filter fun(l:Rung.Line)=>l.sort==0).findIdx? fun(l:Rung.Line)=>l.gives==some x with
 |some i=>simp
 |none=>
  simp only[Option.map_none]
  cases(p.filter fun(l:Rung.Line)=>l.sort==1).findIdx? fun(l:Rung.Line)=>l.gives==some x with
  |some j=>simp
  |none=>rfl
theorem Vl{p:List Rung.Line}(h:Rung.faultIn p=none):Rung.firstLine p (jk p)=none∧Rung.firstLine p (j_ p)=none∧Rung.firstLine p (fU p)=none∧Rung.firstLine p (h_ p)=none:=by
 rw[oU] at h
 cases h1:Rung.firstLine p (jk p) with
 |some k=>rw[h1] at h;cases h
 |none=>
  rw[h1] at h
  cases h2:Rung.firstLine p (j_ p) with
  |some k=>rw[h2] at h;cases h
  |none=>
   rw[h2] at h
   cases h3:Rung.firstLine p (fU p) with
   |some k=>rw[h3] at h;cases h
   |none=>
    rw[h3] at h
    cases h4:Rung.firstLine p (h_ p) with
    |some k=>rw[h4] at h;cases h
    |none=>exact⟨rfl,rfl,rfl,rfl⟩
theorem KY{p:List Rung.Line}{bad:Nat→Rung.Line→Bool}(h:Rung.firstLine p bad=none){i:Nat}{l:Rung.Line}(hi:p[i]? =some l):bad i l=false:=by
 unfold Rung.firstLine at h
 rw[List.findSome?_eq_none_iff] at h
 have:=h (l,i) (List.mem_zipIdx_iff_getElem?.mpr hi)
 simp only at this
 cases e:bad i l with
 |false=>rfl
 |true=>rw[e] at this;simp at this
theorem rm{p:List Rung.Line}(h:Rung.firstLine p (j_ p)=none)(r:Nat):(p.filter fun l=>l.sort==r).length≤Rung.mostOf r:=by
 have gen:∀i,i≤p.length→cnt p i r≤Rung.mostOf r:=by
  intro i
  induction i with
  |zero=>intro _;simp[cnt]
  |succ i ih=>
   intro hi
   have ih':=ih (by omega)
   obtain⟨u,hu⟩:∃u,p[i]? =some u:=⟨p[i],List.getElem?_eq_getElem (by omega)⟩
   rw[qR hu]
   by_cases e:u.sort=r
   ·rw[if_pos e]
    have hb:=KY h hu
    unfold j_ at hb
    rw[decide_eq_false_iff_not,e] at hb
    have:¬Rung.mostOf r≤cnt p i r:=hb
    omega
   ·rw[if_neg e]
    omega
 have:=gen p.length (Nat.le_refl _)
 unfold cnt at this
 rw[List.take_length] at this
 exact this
theorem YJ:∀l:List Nat,(l.map fun(n:Nat)=>(n:Int)).sum=((l.sum:Nat):Int)
 | []=>rfl
 |n::r=>by
  rw[List.map_cons,List.sum_cons,List.sum_cons,YJ r]
  omega
theorem aj8{l:Rung.Line}(h:l.sort=1):∃k,gM l=[k]:=by
 cases l<;>first|exact⟨_,rfl⟩|(simp[Rung.Line.sort] at h)
theorem aj9{l:Rung.Line}{p:List Rung.Line}(h:l.sort=3):gM l=[(eN p l).a,(eN p l).b]∧zE l=pO (eN p l):=by
 cases l with
 |contact c x a b=>exact⟨rfl,rfl⟩
 |_=>simp[Rung.Line.sort] at h
theorem ai1{p:List Rung.Line}(h:Rung.firstLine p (h_ p)=none){l:Rung.Line}(hl:l∈p)(h3:l.sort=3):Rung.varOf p (nameOf l)=some (eN p l).var:=by
 obtain⟨i,hi⟩:=List.mem_iff_getElem?.mp hl
 have hb:=KY h hi
 cases l with
 |contact c x a b=>
  have hb':(Rung.varOf p x).isNone=false:=hb
  show Rung.varOf p x=some ((Rung.varOf p x).getD 0)
  cases e:Rung.varOf p x with
  |none=>rw[e] at hb';cases hb'
  |some v=>rfl
 |_=>simp[Rung.Line.sort] at h3
section
variable{K:PySem.W.Frag}{mg:Str→Option Value}{A:Ad}
theorem aeP(T:Tx K mg A)(vs:List V)(H:Hp)(Q:VK)(E:XK)(h:yw K A vs H Q E):HD K A {nx:=fun _ H'=>Q .non H',rt:=Q} (L2.start ["rows","variables","inputs","coils","row","contacts"] vs) H:=by
 obtain⟨B,a,xs,p,rfl,sB,ha,pr0,hle,hn,hfa,q⟩:=h
 obtain⟨f2,f3,f4,f5⟩:=Vl hfa
 have m0:(namesOf p 0).length≤16:=by have:=rm f3 0;unfold namesOf;rw[List.length_map];exact this
 have m1:(namesOf p 1).length≤12:=by have:=rm f3 1;unfold namesOf;rw[List.length_map];exact this
 have m3:(p.filter fun l=>l.sort==3).length≤256:=rm f3 3
 have pr:Paired (pN A.row H) xs p:=Paired.dY pr0 fun _ _ r=>iY.mono (bW _ _) r
 show HD K A _ [some (.ref a),none,none,none,none,none] H
 refine⟨_,rfl,a,xs,p,rfl,ha,pr,hle,hn,f4,fun v H1 s1 ⟨d,ed,hd⟩=>?_⟩
 subst ed
 show S6 K A _ [some (.ref a),some (.ref d),none,none,none,none] H1
 have hd1:=bW _ _ _ _ hd
 have hd0:H d=none:=(cu hd).1
 refine⟨_,rfl,a,xs,p,0,rfl,s1 _ _ ha,Paired.dY pr (fun _ _ r=>iY.mono s1 r),hle,fun v Ha sa ⟨l0,e,hl0⟩=>?_⟩
 subst e
 have akL:=d9 (qI 0 pr)
 have hni:(fX xs p 0).length=(Rung.schemeOf p).inputs.length:=by rw[akL,Ay,List.length_map]
 refine⟨l0,_,rfl,.inl (au.of (bW _ _ _ _ hl0)),?_⟩
 rw[hni]
 show S5 K A _ [some (.ref a),some (.ref d),some (.int ((Rung.schemeOf p).inputs.length:Int)),none,none,none] Ha
 have hd1:=sa _ _ hd1
 have s1:=s1.trans sa
 refine⟨_,rfl,a,xs,p,1,rfl,s1 _ _ ha,Paired.dY pr (fun _ _ r=>iY.mono s1 r),hle,fun v H2 s2 ⟨l1,e,hl1⟩=>?_⟩
 subst e
 have s12:=s1.trans s2
 have aaF:=qI 1 pr
 have aaG:=d9 aaF
 refine⟨l1,rfl,⟨_,au.of (bW _ _ _ _ hl1)⟩,fun D1 hD1=>?_⟩
 refine lF (fun _=>true) (fun j y _=>y= .int ((((p.filter fun l=>l.sort==1).getD j (.input [])) |> fun l=>(gM l).headD 0:Nat):Int)) hD1 (au.of (bW _ _ _ _ hl1)) (fun i c' Hc hi sm Qt h=>h Hc (Same.refl _)) (fun i x Hc hi _ sm Qe h=>?_) (fun _ _ _ _ _ p=>p) ?_ ?_
 ·obtain⟨l,hl,b,dx,n,rfl,hb,hnn⟩:=gH aaF hi
  have hs:l.sort=1:=by simpa using(List.mem_filter.mp (List.mem_of_getElem? hl)).2
  obtain⟨k,hk⟩:=aj8 hs
  have sc:=s12.trans sm
  have hb1:=sc _ _ hb
  have hn1:=sc _ _ hnn
  simp only[L2.wipe,List.set_cons_succ,List.set_cons_zero]
  walk_at"rd"
  simp only[hb1,T.eU,T.tR,Xe,Option.some.injEq,HO.ins.injEq,exists_and_left,exists_eq_left',true_and,and_assoc,V.int.injEq,V.ref.injEq]
  refine⟨_,au.of hn1,.int (k:Int),by rw[hk];exact at0 _ _,h _ Hc (Same.refl _) ?_⟩
  show _=V.int (((gM ((p.filter fun l=>l.sort==1).getD i (.input []))).headD 0:Nat):Int)
  rw[getD_some hl,hk]
  rfl
 ·rw[aaG,sizeLine_eq]
  have:=List.length_filter_le (fun l:Rung.Line=>l.sort==1) p
  omega
 intro ys1 H3 s3 hy1 pr1
 rw[filter_all] at pr1
 have ey1:=lB pr1
 have e1:ys1=nV ((Rung.schemeOf p).relays.map (·.node)):=by
  rw[ey1,aaG,agV]
  unfold nV
  rw[List.map_map]
  exact range_getD (fun l=>V.int (((gM l).headD 0:Nat):Int)) (p.filter fun l=>l.sort==1) (.input [])
 have oF:=s12.trans s3
 have hd3:=(s2.trans s3) _ _ hd1
 have NZ:H D1=none:=s12.free hD1
 show SX K A _ [some (.ref a),some (.ref d),some (.int ((Rung.schemeOf p).inputs.length:Int)),some (.ref D1),none,none] H3
 refine⟨_,rfl,a,xs,p,3,rfl,oF _ _ ha,Paired.dY pr (fun _ _ r=>iY.mono oF r),hle,fun v H4 s4 ⟨l3,e,hl3⟩=>?_⟩
 subst e
 have jf:=oF.trans s4
 have aaH:=qI 3 pr0
 have hlen3:=d9 aaH
 refine⟨l3,rfl,⟨_,au.of (bW _ _ _ _ hl3)⟩,fun D2 hD2=>?_⟩
 refine lF (fun _=>true) (fun j y G=>∃a' dx n,y= .ref a'∧G a'=some (.ins A.contact dx (oW (eN p ((p.filter fun l=>l.sort==3).getD j (.input []))).var (pO (eN p ((p.filter fun l=>l.sort==3).getD j (.input [])))) n))∧nw B H n=some (.lst (nV [(eN p ((p.filter fun l=>l.sort==3).getD j (.input []))).a,(eN p ((p.filter fun l=>l.sort==3).getD j (.input []))).b]))) hD2 (au.of (bW _ _ _ _ hl3)) (fun i c' Hc hi sm Qt h=>h Hc (Same.refl _)) (fun i x Hc hi _ sm Qe h=>?_) (fun j y G G' s ⟨a',dx,n,e,h1,h2⟩=>⟨a',dx,n,e,s _ _ h1,h2⟩) ?_ ?_
 ·obtain⟨l,hl,b,dx,n,rfl,hb,hnn⟩:=gH aaH hi
  have hm:=List.mem_filter.mp (List.mem_of_getElem? hl)
  have hs:l.sort=3:=by simpa using hm.2
  obtain⟨hk1,hk2⟩:=aj9 (p:=p) hs
  have sc:=jf.trans sm
  have hb1:=sc _ _ (bW _ _ _ _ hb)
  have hdc:=(s4.trans sm) _ _ hd3
  have hv:=ai1 f5 hm.1 hs
  have hvv:=ahR hn (hn l hm.1)
  rw[hv] at hvv
  simp only[L2.wipe,List.set_cons_succ,List.set_cons_zero]
  walk_at"rd"
  simp only[hb1,T.eU,T.tR,T.jH,T.yt,Xe,nD,afA,Option.some.injEq,HO.ins.injEq,exists_and_left,exists_eq_left',true_and,and_assoc,V.int.injEq,V.ref.injEq]
  have hg:=dG.k (k:=kN (nameOf l)) hdc
  rw[hvv] at hg
  refine⟨_,hg,rfl,fun y dy hy vQ hne=>h _ _ ?_ ⟨y,dy,n,rfl,?_,?_⟩⟩
  ·exact cC (cC (Same.refl _) vQ) hy
  ·rw[getD_some hl,←hk2]
   exact bO hy aC
  ·rw[getD_some hl,←hk1]
   exact hnn
 ·rw[hlen3,sizeLine_eq]
  omega
 intro ys2 H5 s5 hy2 gF
 rw[filter_all,hlen3] at gF
 have oG:=jf.trans s5
 have hd5:=(s4.trans s5) _ _ hd3
 have hc5:=(s4.trans s5) _ _ hy1
 have vm:H D2=none:=jf.free hD2
 show SQ K A _ [some (.ref a),some (.ref d),some (.int ((Rung.schemeOf p).inputs.length:Int)),some (.ref D1),none,some (.ref D2)] H5
 have lq:(nV ((Rung.schemeOf p).relays.map (·.node))).length=(Rung.schemeOf p).relays.length:=by rw[bT,List.length_map]
 refine⟨_,rfl,_,rfl,_,rfl,_,D1,D2,nV ((Rung.schemeOf p).relays.map (·.node)),rfl,by rw[aiZ];exact m0,by rw[hc5,e1],by rw[lq,ai0];exact m1,fun y dy dd H7 BL hy hdd hy7 alh hne=>?_⟩
 rw[lq] at hy7
 have s1E:=oG.trans BL
 have off:∀{b:Addr} {o:HO},H5 b=some o→b≠dd:=fun e=>bM e hdd
 refine q _ dd H7 s1E ⟨y,dy,D1,D2,ys2,rfl,cZ hne (bO (sB.free (oG.free hy)) hy7),cZ (off hc5) (bO (sB.free NZ) (BL _ _ (by rw[hc5,e1]))),cZ (off hy2) (bO (sB.free vm) (BL _ _ hy2)),?_⟩ (oG.free hdd) alh
 rw[Az]
 have pr4:=tU (F:=fun y l=>∃a' dx n,y=V.ref a'∧(nw (upd H4 D2 (.lst [])) H5) a'=some (.ins A.contact dx (oW (eN p l).var (pO (eN p l)) n))∧nw B H n=some (.lst (nV [(eN p l).a,(eN p l).b]))) (g:=fun j=>(p.filter fun l=>l.sort==3).getD j (.input [])) gF
 rw[range_getD (fun l=>l)] at pr4
 rw[List.map_id'] at pr4
 have gen:∀{ls:List Rung.Line} {ys:List V},Paired (fun y l=>∃a' dx n,y=V.ref a'∧(nw (upd H4 D2 (.lst [])) H5) a'=some (.ins A.contact dx (oW (eN p l).var (pO (eN p l)) n))∧nw B H n=some (.lst (nV [(eN p l).a,(eN p l).b]))) ys ls→
  Paired (qT A (hide dd (nw B H7))) ys (ls.map (eN p)):=by
  intro ls ys h
  induction h with
  |nil=>exact .nil
  |cons r t ih=>
   obtain⟨a',dx,n,e,h1,h2⟩:=r
   refine .cons ⟨a',dx,n,e,?_,cZ (off (oG _ _ (bW _ _ _ _ h2))) (qX s1E _ _ h2)⟩ ih
   obtain⟨h3,h4⟩:=cu h1
   have ali:a'≠D2:=fun z=>by rw[z,aC] at h3;cases h3
   rw[aH ali] at h3
   exact cZ (off h4) (bO (sB.free (jf.free h3)) (BL _ _ h4))
 exact gen pr4
end
def lu(x:Nat)(cs:List Rung.Contact)(k:Nat):List Nat:=cs.flatMap fun c=>if c.closed x=true then(if c.a=k then [c.b] else [])++(if c.b=k then [c.a] else []) else []
theorem ai2(s:Rung.Scheme)(x k m:Nat):m∈lu x s.contacts k↔ML.qd s x k m:=by
 unfold lu ML.qd
 rw[List.mem_flatMap]
 constructor
 ·rintro⟨c,hc,h⟩
  by_cases hcl:c.closed x=true
  ·rw[if_pos hcl] at h
   refine⟨c,hc,hcl,?_⟩
   rcases List.mem_append.mp h with z|z
   ·by_cases e:c.a=k
    ·rw[if_pos e] at z
     exact .inl ⟨e,(List.mem_singleton.mp z).symm⟩
    ·rw[if_neg e] at z
     simp at z
   ·by_cases e:c.b=k
    ·rw[if_pos e] at z
     exact .inr ⟨e,(List.mem_singleton.mp z).symm⟩
    ·rw[if_neg e] at z
     simp at z
  ·rw[if_neg hcl] at h
   simp at h
 ·rintro⟨c,hc,hcl,h⟩
  refine⟨c,hc,?_⟩
  rw[if_pos hcl]
  rcases h with⟨e1,e2⟩|⟨e1,e2⟩
  ·exact List.mem_append.mpr (.inl (by rw[if_pos e1];simp[e2]))
  ·exact List.mem_append.mpr (.inr (by rw[if_pos e1];simp[e2]))
theorem ahS(x:Nat)(cs:List Rung.Contact)(c:Rung.Contact)(k:Nat):lu x (cs++[c]) k=lu x cs k++(if c.closed x=true then(if c.a=k then [c.b] else [])++(if c.b=k then [c.a] else []) else []):=by
 unfold lu
 rw[List.flatMap_append]
 simp
theorem LQ(x:Nat)(k:Nat):∀cs:List Rung.Contact,(lu x cs k).length≤2*cs.length
 | []=>by simp[lu]
 |c::r=>by
  have ih:=LQ x k r
  unfold lu at ih⊢
  rw[List.flatMap_cons,List.length_append,List.length_cons]
  have:(if c.closed x=true then(if c.a=k then [c.b] else [])++(if c.b=k then [c.a] else []) else []).length≤2:=by
   split
   ·rw[List.length_append]
    split<;>split<;>simp
   ·simp
  omega
def CQ(Hc:Hp)(ls:List Addr)(f:Nat→List Nat):Prop:=∀(k:Nat) (l:Addr),ls[k]? =some l→Hc l=some (.lst (nV (f k)))
theorem CQ.app{Hc:Hp}{ls:List Addr}{f:Nat→List Nat}(h:CQ Hc ls f)(nd:ls.Nodup){a b:Nat}{l:Addr}(hl:ls[a]? =some l):CQ (upd Hc l (.lst (nV (f a)++[.int (b:Int)]))) ls fun k=>f k++(if a=k then [b] else []):=by
 intro k l' hl'
 by_cases e:a=k
 ·subst e
  rw[hl] at hl'
  cases hl'
  dsimp only
  rw[aC,if_pos rfl,jh]
  rfl
 ·have ne:l'≠l:=fun z=>e (aax nd hl (by rw[←z];exact hl'))
  dsimp only
  rw[aH ne,if_neg e,List.append_nil]
  exact h k l' hl'
def aj_(D:Addr)(H:Hp):Nat→Hp→Prop:=fun i Hc=>∃ls:List Addr,ls.length=i∧ls.Nodup∧Same H Hc∧Hc D=some (.lst (ls.map V.ref))∧∀l∈ls,H l=none∧l≠D∧Hc l=some (.lst [])
def alj(a D:Addr)(x:Nat)(ls:List Addr)(cs:List Rung.Contact)(H:Hp):Nat→L2.St→Hp→Prop:=fun i σ Hc=>∃v3 v4 v5 v6,σ=[some (.ref a),some (.int x),some (.ref D),v3,v4,v5,v6]∧Same H Hc∧Hc D=some (.lst (ls.map V.ref))∧CQ Hc ls (lu x (cs.take i))
section
variable{K:PySem.W.Frag}{mg:Str→Option Value}{A:Ad}
theorem abF(T:Tx K mg A)(vs:List V)(H:Hp)(Q:VK)(E:XK)(h:Dn A vs H Q E):Dq K A {nx:=fun _ H'=>Q .non H',rt:=Q} (L2.start ["scheme","state","neighbours","node","contact","lesser","greater"] vs) H:=by
 obtain⟨v,s,x,e0,rfl,hs,hw,q⟩:=h
 obtain⟨a,dx,lc,lk,cs,rfl,ha,hc,hk,hp⟩:=id hs
 show Dq K A _ [some (.ref a),some (.int x),none,none,none,none,none] H
 refine⟨63,1,rfl,rfl,(64:Int),rfl,by decide,by decide,fun D hD=>?_⟩
 refine ahk (aj_ D H) ⟨[],rfl,List.nodup_nil,bI hD,aC,by simp⟩ ?_ ?_
 ·rintro i Hc hi ⟨ls,hl,nd,sm,hDc,hall⟩
  refine⟨JD _ _ _,?_⟩
  simp only[fO,if_true]
  refine⟨Nat.zero_le _,fun p hp=>?_⟩
  have Om:D≠p:=bM hDc hp
  have hpl:p∉ls:=fun hm=>by
   have:=(hall p hm).2.2
   rw[hp] at this
   cases this
  refine⟨ls.map V.ref,by rw[aH Om];exact hDc,by rw[List.length_map,hl,sizeLine_eq];have:i<64:=hi;omega,ls++[p],by rw[List.length_append,hl];rfl,zT nd hpl,?_,?_,?_⟩
  ·exact cC (cC sm (sm.free hp)) hD
  ·rw[aC,List.map_append]
   rfl
  ·intro l hl'
   rcases List.mem_append.mp hl' with z|z
   ·obtain⟨h1,h2,h3⟩:=hall l z
    refine⟨h1,h2,?_⟩
    rw[aH h2,aH (bM h3 hp)]
    exact h3
   ·have e:=List.mem_singleton.mp z
    subst e
    exact⟨sm.free hp,Ne.symm Om,by rw[aH (Ne.symm Om),aC]⟩
 ·rintro H1 ⟨ls,hl,nd,s1,hD1,hall⟩
  have hl:ls.length=64:=hl
  show O9 K A _ [some (.ref a),some (.int x),some (.ref D),none,none,none,none] H1
  have ha1:=s1 _ _ ha
  have hk1:=s1 _ _ hk
  have aa6:∀k,k<64→∃l,ls[k]? =some l:=fun k hk=>⟨ls[k],List.getElem?_eq_getElem (by omega)⟩
  refine⟨_,rfl,a,A.scheme,dx,_,_,rfl,ha1,T.cW,T.tG,Uk _ _ _ _ _,lk,rfl,⟨_,au.of hk1⟩,lE (xs:=cs) (alj a D x ls s.contacts H) ⟨none,none,none,none,rfl,s1,hD1,?_⟩ (fun i σ H' _ ⟨_,_,_,_,_,s',_⟩=>au.of (s' _ _ hk)) ?_ ?_⟩
  ·intro k l hkl
   exact(hall l (List.mem_of_getElem? hkl)).2.2
  ·rintro i y σ H2 hi ⟨v3,v4,v5,v6,rfl,s2,hD2,nb⟩
   obtain⟨c,hcc,hcv⟩:=gH hp hi
   have aa7:=hcv.mono s2
   have hlow:=hw.low c (List.mem_of_getElem? hcc)
   have hil:i<s.contacts.length:=(List.getElem?_eq_some_iff.mp hcc).1
   have hcl:=hw.con
   walk_at"rd"
   refine⟨y,c,x,rfl,aa7,_,rfl,?_⟩
   obtain⟨b,dxb,n,rfl,hb,hn⟩:=aa7
   have nxt:=fun k=>ahS x (s.contacts.take i) c k
   rw[←take_snoc hcc] at nxt
   cases hclo:c.closed x with
   |false=>
    rw[if_neg (by simp)]
    refine⟨_,_,_,_,rfl,s2,hD2,fun k l hkl=>?_⟩
    rw[nxt k,if_neg (by simp[hclo]),List.append_nil]
    exact nb k l hkl
   |true=>
    rw[if_pos rfl]
    unfold O7 O6 O5
    walk_at"rd"
    simp only[hb,T.m9,T.wX,agT,Option.some.injEq,HO.ins.injEq,exists_and_left,exists_eq_left',true_and,and_assoc,V.int.injEq,V.ref.injEq]
    obtain⟨la,hla⟩:=aa6 c.a hlow.1
    obtain⟨lb,hlb⟩:=aa6 c.b hlow.2
    have nb1:=nb.app nd (b:=c.b) hla
    have nb2:=nb1.app nd (b:=c.a) hlb
    have hna:=nb c.a la hla
    have hmem:=hall la (List.mem_of_getElem? hla)
    have aaI:=hall lb (List.mem_of_getElem? hlb)
    have hDa:D≠la:=Ne.symm hmem.2.1
    have hDb:D≠lb:=Ne.symm aaI.2.1
    have hlen:=LQ x c.a (s.contacts.take i)
    have alO:=LQ x c.b (s.contacts.take i)
    have htl:(s.contacts.take i).length≤256:=by rw[List.length_take];omega
    have hma:(ls.map V.ref)[c.a]? =some (.ref la):=by rw[List.getElem?_map,hla];rfl
    have hmb:(ls.map V.ref)[c.b]? =some (.ref lb):=by rw[List.getElem?_map,hlb];rfl
    have hnb:=nb1 c.b lb hlb
    have hDD:(upd H2 la (.lst (nV (lu x (s.contacts.take i) c.a)++[.int (c.b:Int)]))) D=some (.lst (ls.map V.ref)):=by rw[aH hDa];exact hD2
    refine⟨_,au.of hn,.int (c.a:Int),at0 _ _,_,au.of hn,.int (c.b:Int),rfl,_,(c.a:Int),rfl,au.of hD2,.ref la,j9 hma,.inl ⟨_,au.of hna⟩,la,rfl,_,hna,?_,_,(c.b:Int),rfl,au.of hDD,.ref lb,j9 hmb,.inl ⟨_,au.of hnb⟩,lb,rfl,_,hnb,?_,?_⟩
    ·rw[bT,sizeLine_eq]
     omega
    ·rw[bT,List.length_append,sizeLine_eq]
     have:(if c.a=c.b then [c.b] else([]:List Nat)).length≤1:=by split<;>simp
     omega
    ·refine⟨_,_,_,_,rfl,cC (cC s2 hmem.1) aaI.1,by rw[aH hDb];exact hDD,fun k l hkl=>?_⟩
     rw[nb2 k l hkl,nxt k,if_pos hclo]
     dsimp only
     rw[List.append_assoc]
  ·rintro σ H2 ⟨v3,v4,v5,v6,rfl,s2,hD2,nb⟩
   rw[d9 hp,List.take_length] at nb
   simp only[O8]
   walk_at"rd"
   refine q _ H2 s2 ⟨D,ls,rfl,bO hD hD2,hl,fun k l hkl=>⟨_,bO (hall l (List.mem_of_getElem? hkl)).1 (nb k l hkl),fun m=>ai2 s x k m⟩⟩
end
def cN(ks:List Nat):List (Key×V):=ks.map fun(k:Nat)=>(Sum.inl (k:Int),V.bl true)
theorem ahT(ks:List Nat):(cN ks).map (·.1)=ks.map fun(k:Nat)=>(Sum.inl (k:Int):Key):=by unfold cN;rw[List.map_map];rfl
theorem LR{ks:List Nat}{k:Nat}:(Sum.inl (k:Int):Key)∈(cN ks).map (·.1)↔k∈ks:=by
 rw[ahT,List.mem_map]
 constructor
 ·rintro⟨j,hj,e⟩
  have:(j:Int)=(k:Int):=Sum.inl.inj e
  have:j=k:=by omega
  rw[←this]
  exact hj
 ·intro h
  exact⟨k,h,rfl⟩
theorem zH(ks:List Nat)(k:Nat):(aQ (cN ks) (Sum.inl (k:Int))).isSome=true↔k∈ks:=by
 constructor
 ·intro h
  obtain⟨v,hv⟩:=Option.isSome_iff_exists.mp h
  exact LR.mp (Zh hv)
 ·intro h
  cases e:aQ (cN ks) (Sum.inl (k:Int)) with
  |some v=>rfl
  |none=>exact absurd (LR.mpr h) (Yd e)
theorem ZG{ks:List Nat}{k:Nat}(h:k∉ks):putK (cN ks) (Sum.inl (k:Int)) (.bl true)=cN (ks++[k]):=by
 rw[Kr _ (J5 fun z=>h (LR.mp z))]
 unfold cN
 rw[List.map_append]
 rfl
theorem lG:∀(n:Nat) (l:List Nat),l.Nodup→(∀x∈l,x<n)→l.length≤n
 |0,l,_,h=>by
  cases l with
  |nil=>simp
  |cons a r=>exact absurd (h a (List.mem_cons_self ..)) (by omega)
 |n+1,l,nd,h=>by
  by_cases hm:n∈l
  ·have h1:=lG n (l.erase n) (nd.erase n) fun x hx=>by
    have hx':=(nd.mem_erase_iff).mp hx
    have:=h x hx'.2
    have:=hx'.1
    omega
   have h2:=List.length_erase_of_mem hm
   omega
  ·have h1:=lG n l nd fun x hx=>by
    have:=h x hx
    have:x≠n:=fun e=>hm (by rw[←e];exact hx)
    omega
   omega
structure N7(s:Rung.Scheme)(x:Nat)(ks ws:List Nat)(now:Nat→Prop):Prop where
 nd:ks.Nodup
 low:∀k∈ks,k<64
 zero:0∈ks
 vR:∀k∈ks,ML.je s x k
 wait:∀k∈ws,k∈ks
 done:∀k∈ks,k∉ws→¬now k→∀m,ML.qd s x k m→m∈ks
theorem ahU{s:Rung.Scheme}{x:Nat}{ks:List Nat}(h:N7 s x ks [] fun _=>False)(k:Nat):k∈ks↔ML.je s x k:=by
 refine⟨h.vR k,fun r=>?_⟩
 induction r with
 |zero=>exact h.zero
 |step _ ad ih=>exact h.done _ ih (by simp) (by simp) _ ad
theorem ai3{s:Rung.Scheme}(hw:iV s){x u v:Nat}(h:ML.qd s x u v):v<64:=by
 obtain⟨c,hc,_,h⟩:=h
 have:=hw.low c hc
 rcases h with⟨_,e⟩|⟨_,e⟩<;>omega
def aaJ(v:V)(s:Rung.Scheme)(x:Nat)(r d w:Addr)(H1:Hp):Nat→L2.St→Hp→Prop:=fun m σ Hc=>∃(ks ws:List Nat) (v5 v6:Option V),σ=[some v,some (.int x),some (.ref r),some (.ref d),some (.ref w),v5,v6]∧Same H1 Hc∧Hc d=some (.dK (cN ks))∧Hc w=some (.lst (nV ws))∧
 N7 s x ks ws (fun _=>False)∧m=2*(64 - ks.length)+ws.length∧ws.length≤ks.length
def akM(v:V)(s:Rung.Scheme)(x:Nat)(r d w:Addr)(H1:Hp)(u:Nat)(ns:List Nat)(m0:Nat):Nat→L2.St→Hp→Prop:=fun i σ Hc=>∃(ks ws:List Nat) (v6:Option V),σ=[some v,some (.int x),some (.ref r),some (.ref d),some (.ref w),some (.int (u:Int)),v6]∧Same H1 Hc∧Hc d=some (.dK (cN ks))∧Hc w=some (.lst (nV ws))∧
 N7 s x ks ws (fun k=>k=u)∧u∈ks∧(∀(j n:Nat),j<i→ns[j]? =some n→n∈ks)∧2*(64 - ks.length)+ws.length≤m0∧ws.length≤ks.length
section
variable{K:PySem.W.Frag}{mg:Str→Option Value}{A:Ad}
theorem adY(T:Tx K mg A)(vs:List V)(H:Hp)(Q:VK)(E:XK)(h:GX A vs H Q E):GZ K A {nx:=fun _ H'=>Q .non H',rt:=Q} (L2.start ["scheme","state","neighbours","live","waiting","node","neighbour"] vs) H:=by
 obtain⟨v,s,x,e0,rfl,hs,hw,q⟩:=h
 show GZ K A _ [some v,some (.int x),none,none,none,none,none] H
 refine⟨_,rfl,_,rfl,v,s,x,e0,rfl,hs,hw,fun v2 H1 s1 ⟨r,ls,er,hr,hll,hls⟩=>?_⟩
 subst er
 show Ru K A _ [some v,some (.int x),some (.ref r),none,none,none,none] H1
 have hr1:=bW _ _ _ _ hr
 intro d hd
 refine⟨aC,[(Sum.inl 0,.bl true)],rfl,by decide,?_⟩
 rw[g8,show kE [] [(Sum.inl 0,V.bl true)]=cN [0] from rfl]
 show Rt K A _ [some v,some (.int x),some (.ref r),some (.ref d),none,none,none] (upd H1 d (.dK (cN [0])))
 refine⟨len1 _,fun w hw'=>?_⟩
 show Rr K A _ [some v,some (.int x),some (.ref r),some (.ref d),some (.ref w),none,none] (upd (upd H1 d (.dK (cN [0]))) w (.lst (nV [0])))
 have hdw:d≠w:=bM aC hw'
 have hw1:H1 w=none:=by rw[aH (Ne.symm hdw)] at hw';exact hw'
 refine⟨aaJ v s x r d w H1,⟨_,[0],[0],none,none,rfl,cC (bI hd) hw1,?_,aC,?_,rfl,Nat.le_refl _⟩,?_⟩
 ·rw[aH hdw,aC]
 ·exact⟨by simp,by simp,by simp,fun k hk=>by rw[List.mem_singleton.mp hk];exact .zero,fun k hk=>hk,fun k hk hn=>absurd hk hn⟩
 ·rintro m σ Hc ⟨ks,ws,v5,v6,rfl,sm,hdc,Oo,sk,rfl,hle⟩
  walk_at"rd"
  refine⟨_,.inl (au.of Oo),?_⟩
  rw[bT]
  rcases List.eq_nil_or_concat ws with rfl|⟨ws',u,rfl⟩
  ·rw[if_neg (by simp)]
   simp only[Rq]
   walk_at"rd"
   exact q _ Hc (s1.trans sm) ⟨d,_,rfl,bO (s1.free hd) hdc,fun k=>by rw[zH,ahU sk]⟩
  ·rw[List.concat_eq_append] at *
   rw[if_pos (by simp only[List.length_append,List.length_cons,List.length_nil];omega)]
   have hu:u∈ks:=sk.wait u (by simp)
   have vL:=sk.low u hu
   obtain⟨l,hl⟩:∃l,ls[u]? =some l:=⟨ls[u],List.getElem?_eq_getElem (by omega)⟩
   obtain⟨ns,hns,aa8⟩:=hls u l hl
   have aa9:=bW _ _ _ _ hns
   refine⟨fun σ' H'=>∃m',m'<2*(64 - ks.length)+(ws'++[u]).length∧aaJ v s x r d w H1 m' σ' H',fun _ _ h=>h,.inl ⟨_,au.of Oo⟩,_,Oo,.int (u:Int),?_,?_⟩
   ·rw[jh,List.length_append]
    simp[nV]
   ·have edl:(nV (ws'++[u])).dropLast=nV ws':=by rw[jh];simp[nV]
    rw[edl]
    have alR:d≠w:=hdw
    have Oq:Same H1 (upd Hc w (.lst (nV ws'))):=cC sm hw1
    have hls2:(ls.map V.ref)[u]? =some (.ref l):=by rw[List.getElem?_map,hl];rfl
    unfold Rp
    refine⟨_,rfl,_,rfl,r,_,(u:Int),_,rfl,rfl,au.of (Oq _ _ hr1),j9 hls2,l,rfl,⟨_,au.of (Oq _ _ aa9)⟩,lE (xs:=nV ns) (akM v s x r d w H1 u ns (2*(64 - ks.length)+ws'.length)) ⟨ks,ws',_,rfl,Oq,by rw[aH hdw];exact hdc,aC,?_,hu,fun j n hj=>absurd hj (Nat.not_lt_zero j),Nat.le_refl _,?_⟩ (fun i σ H' _ ⟨_,_,_,_,s',_⟩=>au.of (s' _ _ aa9)) ?_ ?_⟩
    ·exact⟨sk.nd,sk.low,sk.zero,sk.vR,fun k hk=>sk.wait k (List.mem_append.mpr (.inl hk)),fun k hk hn N8=>sk.done k hk (fun z=>(List.mem_append.mp z).elim hn fun z=>N8 (List.mem_singleton.mp z)) (by simp)⟩
    ·rw[List.length_append] at hle
     simp only[List.length_cons,List.length_nil] at hle
     omega
    ·rintro i y σ H2 hi ⟨gY,sU,v6',rfl,s2,hd2,hw2,fZ,hu2,u6,hms,N_⟩
     obtain⟨n,hn,rfl⟩:=iM hi
     have aaK:ML.qd s x u n:=(aa8 n).mp (List.mem_of_getElem? hn)
     have alk:=ai3 hw aaK
     walk_at"rd"
     refine⟨_,dG.k (k:=Sum.inl (n:Int)) hd2,?_⟩
     have hkl:=lG 64 gY fZ.nd fZ.low
     by_cases hin:n∈gY
     ·rw[if_neg (by rw[(zH gY n).mpr hin];simp)]
      refine⟨gY,sU,_,rfl,s2,hd2,hw2,fZ,hu2,fun j n' hj hn'=>?_,hms,N_⟩
      by_cases e:j=i
      ·subst e
       rw[hn] at hn'
       cases hn'
       exact hin
      ·exact u6 j n' (by omega) hn'
     ·rw[if_pos (by
       cases e:(aQ (cN gY) (Sum.inl (n:Int))).isSome with
       |false=>rfl
       |true=>exact absurd ((zH gY n).mp e) hin)]
      have akN:(cN gY).length=gY.length:=by unfold cN;rw[List.length_map]
      refine⟨_,jx.k (k:=Sum.inl (n:Int)) hd2 (by rw[akN,sizeLine_eq];omega),?_⟩
      rw[ZG hin]
      unfold Ro
      walk_at"rd"
      have hw3:(upd H2 d (.dK (cN (gY++[n])))) w=some (.lst (nV sU)):=by rw[aH (Ne.symm hdw)];exact hw2
      have nd3:(gY++[n]).Nodup:=zT fZ.nd hin
      have aa_:∀k∈gY++[n],k<64:=fun k hk=>(List.mem_append.mp hk).elim (fZ.low k) fun z=>by rw[List.mem_singleton.mp z];exact alk
      have hk3:=lG 64 _ nd3 aa_
      rw[List.length_append] at hk3
      simp only[List.length_cons,List.length_nil] at hk3
      refine⟨.inl ⟨_,au.of hw3⟩,_,hw3,by rw[bT,sizeLine_eq];omega,gY++[n],sU++[n],_,rfl,cC (cC s2 hd) hw1,?_,?_,?_,List.mem_append.mpr (.inl hu2),fun j n' hj hn'=>?_,?_,?_⟩
      ·rw[aH hdw,aC]
      ·rw[aC,jh]
       rfl
      ·refine⟨nd3,aa_,List.mem_append.mpr (.inl fZ.zero),fun k hk=>?_,fun k hk=>?_,fun k hk hnw N8 m hm=>?_⟩
       ·rcases List.mem_append.mp hk with z|z
        ·exact fZ.vR k z
        ·rw[List.mem_singleton.mp z]
         exact .step (fZ.vR u hu2) aaK
       ·rcases List.mem_append.mp hk with z|z
        ·exact List.mem_append.mpr (.inl (fZ.wait k z))
        ·exact List.mem_append.mpr (.inr z)
       ·rcases List.mem_append.mp hk with z|z
        ·exact List.mem_append.mpr (.inl (fZ.done k z (fun y=>hnw (List.mem_append.mpr (.inl y))) N8 m hm))
        ·exact absurd (List.mem_append.mpr (.inr z)) hnw
      ·by_cases e:j=i
       ·subst e
        rw[hn] at hn'
        cases hn'
        simp
       ·exact List.mem_append.mpr (.inl (u6 j n' (by omega) hn'))
      ·rw[List.length_append,List.length_append]
       simp only[List.length_cons,List.length_nil]
       omega
      ·rw[List.length_append,List.length_append]
       simp only[List.length_cons,List.length_nil]
       omega
    ·rintro σ H2 ⟨gY,sU,v6',rfl,s2,hd2,hw2,fZ,hu2,u6,hms,N_⟩
     rw[bT] at u6
     refine⟨2*(64 - gY.length)+sU.length,?_,gY,sU,_,_,rfl,s2,hd2,hw2,⟨fZ.nd,fZ.low,fZ.zero,fZ.vR,fZ.wait,fun k hk hnw _ m hm=>?_⟩,rfl,N_⟩
     ·rw[List.length_append]
      simp only[List.length_cons,List.length_nil]
      omega
     ·by_cases e:k=u
      ·subst e
       obtain⟨j,hj⟩:=List.mem_iff_getElem?.mp ((aa8 m).mpr hm)
       exact u6 j m (List.getElem?_eq_some_iff.mp hj).1 hj
      ·exact fZ.done k hk hnw e m hm
end
abbrev Sd:=RungScanSeed.State
def cT(v:V)(x:Nat)(o:Addr):List (Str×V):=[("scheme",v),("state",.int x),("order",.ref o)]
theorem fB(v:V)(x:Nat)(o:Addr):(cT v x o).lookup ("scheme":Str)=some v:=rfl
theorem lD(v:V)(x:Nat)(o:Addr):(cT v x o).lookup ("state":Str)=some (V.int x):=rfl
theorem uw(v:V)(x:Nat)(o:Addr):(cT v x o).lookup ("order":Str)=some (V.ref o):=rfl
theorem afL(v w:V)(x:Nat)(o:Addr):cH "scheme" w (cT v x o)=cT w x o:=rfl
theorem zj(v:V)(x y:Nat)(o:Addr):cH "state" (V.int y) (cT v x o)=cT v y o:=rfl
theorem Xl(v:V)(x:Nat)(o p:Addr):cH "order" (V.ref p) (cT v x o)=cT v x p:=rfl
def cX(a:Addr)(n:Nat):List (Str×V):=[("calls",.ref a),("place",.int n)]
theorem J7(a:Addr)(n:Nat):(cX a n).lookup ("calls":Str)=some (V.ref a):=rfl
theorem qL(a:Addr)(n:Nat):(cX a n).lookup ("place":Str)=some (V.int n):=rfl
theorem agW(a:Addr)(n m:Nat):cH "place" (V.int m) (cX a n)=cX a m:=rfl
structure BP(st:Sd):Prop where
 well:iV st.scheme
 len:st.order.length=st.scheme.relays.length
 lt:∀j∈st.order,j<st.scheme.relays.length
 nd:st.order.Nodup
 bits:∀v,st.x.testBit v=true→st.scheme.hasVar v=true
structure PG(A:Ad)(G H:Hp)(P:Addr)(st:Sd)(d:Addr)(n:Nat):Prop where
 at_:∃dx v o,H P=some (.ins A.program dx (cT v st.x o))∧gJ A G v st.scheme d∧G o=some (.lst (nV st.order))
 sub:Same G H
 out:G P=none
 off:G d=none
 pd:P≠d
 ok:BP st
 d8:cD H d st.scheme n
theorem akb{G H:Hp}{d:Addr}(s:Same G H)(h:G d=none):Same G (hide d H):=fun b o e=>cZ (bM e h) (s b o e)
def But(P d:Addr)(H H':Hp):Prop:=∀b o,b≠P→b≠d→H b=some o→H' b=some o
theorem But.refl{P d:Addr}{H:Hp}:But P d H H:=fun _ _ _ _ h=>h
theorem But.same{P d:Addr}{H H':Hp}(s:Same H H'):But P d H H':=fun b o _ _ h=>s b o h
theorem But.near{P d:Addr}{H H':Hp}(s:Near d H H'):But P d H H':=fun b o _ h2 h=>s.get h2 h
theorem But.upd{P d:Addr}{H H':Hp}{o:HO}(h:But P d H H'):But P d H (upd H' P o):=fun b u hb h2 e=>by rw[aH hb];exact h b u hb h2 e
theorem But.trans{P d:Addr}{H H1 H2:Hp}(h:But P d H H1)(h':But P d H1 H2):But P d H H2:=fun b o hb h2 e=>h' b o hb h2 (h b o hb h2 e)
def Sub(B H:Hp):Prop:=∀b,H b=none→B b=none
theorem Sub.refl{H:Hp}:Sub H H:=fun _ h=>h
def Done(A:Ad)(B G H:Hp)(P d:Addr)(n:Nat)(Q:VK)(r:Sd×List Int):Prop:=∀H' G' l d',But P d H H'→H l=none→H' l=some (.lst (r.2.map V.int))→PG A G' H' P r.1 d' (n+20000)→(∀b,G' b≠none→G b≠none∨B b=none)→G' l=none→(d'=d∨B d'=none)→H' d≠none→Q (.ref l) H'
def Ju(A:Ad):List V→Hp→VK→Prop:=fun vs H Q=>vs=[]∧∀P H' G d,H P=none→Same H H'→PG A G H' P RungScanSeed.start d 0→(∀b,G b≠none→H b=none)→H d=none→Q (.ref P) H'
def J8(A:Ad):List V→Hp→VK→Prop:=fun vs H Q=>∃a:Addr,vs=[.ref a]∧∀x dx,H x=none→H dx=none→dx≠x→Q (.ref x) (upd (upd H dx (.own x)) x (.ins A.reader dx (cX a 0)))
structure BR(K:PySem.W.Frag)(A:Ad)(H:Hp)(R a:Addr)(ns:List Int)(k:Nat)(dx:Addr):Prop where
 at_:H R=some (.ins A.reader dx (cX a k))
 lst:au K H a (ns.map V.int)
def Fe(K:PySem.W.Frag)(A:Ad):Sp:=fun vs H Q _=>∃(R a dx:Addr) (ns:List Int) (k:Nat),vs=[.ref R]∧BR K A H R a ns k dx∧Q (.bl (decide (ns.length≤k))) H
def qm(K:PySem.W.Frag)(A:Ad):Sp:=fun vs H Q _=>∃(R a dx:Addr) (ns:List Int) (k:Nat) (n:Int),vs=[.ref R]∧BR K A H R a ns k dx∧ns[k]? =some n∧Q (.int n) (upd H R (.ins A.reader dx (cX a (k+1))))
def wC(K:PySem.W.Frag)(A:Ad):Sp:=fun vs H Q _=>∃(R a dx:Addr) (ns:List Int) (k m:Nat),vs=[.ref R]∧BR K A H R a ns k dx∧ns[k]? =some (m:Int)∧k+1+m≤ns.length∧
 ∀p,H p=none→Q (.ref p) (upd (upd H R (.ins A.reader dx (cX a (k+1+m)))) p (.lst (((ns.drop (k+1)).take m).map V.int)))
def nY(A:Ad)(c:RungScanSeed.Call):Sp:=fun vs H Q _=>∃(P:Addr) (B G:Hp) (st:Sd) (d:Addr) (n:Nat),vs=[.ref P]∧PG A G H P st d n∧n≤1000000∧Sub B H∧Done A B G H P d n Q (RungScanSeed.step st c)
def L_(K:PySem.W.Frag)(A:Ad):Sp:=fun vs H Q _=>∃(P a:Addr) (B G:Hp) (st:Sd) (t:Rung.Bytes) (d:Addr) (n:Nat),vs=[.ref P,.ref a]∧PG A G H P st d n∧Sub B H∧H a=some (.lst (kJ t))∧t.length≤30000∧Done A B G H P d n Q (RungScanSeed.step st (.load t))
def HF(K:PySem.W.Frag)(A:Ad):Sp:=fun vs H Q _=>∃(P:Addr) (B G:Hp) (st:Sd) (x:Int) (d:Addr) (n:Nat),vs=[.ref P,.int x]∧PG A G H P st d n∧Sub B H∧Done A B G H P d n Q (RungScanSeed.step st (.set x))
def Ma(K:PySem.W.Frag)(A:Ad):Sp:=fun vs H Q _=>∃(P:Addr) (B G:Hp) (st:Sd) (j:Int) (d:Addr) (n:Nat),vs=[.ref P,.int j]∧PG A G H P st d n∧n≤1000000∧Sub B H∧Done A B G H P d n Q (RungScanSeed.step st (.hang j))
def Jv(K:PySem.W.Frag)(A:Ad):Sp:=fun vs H Q _=>∃(P a:Addr) (B G:Hp) (st:Sd) (o:List Int) (d:Addr) (n:Nat),vs=[.ref P,.ref a]∧PG A G H P st d n∧Sub B H∧H a=some (.lst (o.map V.int))∧B a=none∧o.length≤30000∧Done A B G H P d n Q (RungScanSeed.step st (.arrange o))
def Mf(K:PySem.W.Frag)(A:Ad):Sp:=nY A .told
def HJ(K:PySem.W.Frag)(A:Ad):Sp:=nY A .pass
def KZ(K:PySem.W.Frag)(A:Ad):Sp:=nY A .rungs
def K4(K:PySem.W.Frag)(A:Ad):Sp:=nY A .until_
def G3(K:PySem.W.Frag)(A:Ad):Sp:=nY A .round
def G5(K:PySem.W.Frag)(A:Ad):Sp:=nY A .order
def Mg(K:PySem.W.Frag)(A:Ad):Sp:=nY A .sure
def Mh(K:PySem.W.Frag)(A:Ad):Sp:=nY A .some_
def wM(K:PySem.W.Frag)(A:Ad):TS:=(aL (aG (bx fun i j=>.bl (decide (j≤i))) (aP K (aj 0) "place") (bU (fun xs H Q=>∃p ys,xs=[.ref p]∧(au K H p ys∨bK K H p ys)∧Q (.int ys.length) H) (ak (aP K (aj 0) "calls") aq))))
def Pj(K:PySem.W.Frag)(A:Ad):TS:=(aL (aj 1))
def Pk(K:PySem.W.Frag)(A:Ad):TS:=(aB (zN K (aj 0) (tC (V.int 1)) Br "place") (Pj K A))
def wg(K:PySem.W.Frag)(A:Ad):TS:=(aB (aY (aG (cB K) (aP K (aj 0) "calls") (aP K (aj 0) "place")) (aJ 1)) (Pk K A))
def PL(K:PySem.W.Frag)(A:Ad):TS:=(aL (mQ (mH K) (aP K (aj 0) "calls") (iU (aj 2)) (iU (aP K (aj 0) "place"))))
def PN(K:PySem.W.Frag)(A:Ad):TS:=(aB (zN K (aj 0) (aj 1) Br "place") (PL K A))
def PX(K:PySem.W.Frag)(A:Ad):TS:=(aB (aY (aP K (aj 0) "place") (aJ 2)) (PN K A))
def wD(K:PySem.W.Frag)(A:Ad):TS:=(aB (aY (jD A.reader "take_number" (qm K A) (aj 0) aq) (aJ 1)) (PX K A))
def Xm(K:PySem.W.Frag)(A:Ad):TS:=(dg K (aj 0) (qF (ak (bU (fun xs H Q=>∃p ys,xs=[.ref p]∧(au K H p ys∨bK K H p ys)∧Q (.int ys.length) H) (ak (aP K (aP K (aj 0) "scheme") "coils") aq)) aq)) "order")
def Xn(K:PySem.W.Frag)(A:Ad):TS:=(aB (dg K (aj 0) (tC (V.int 0)) "state") (Xm K A))
def J9(K:PySem.W.Frag)(A:Ad):TS:=(aL (aG iW (bQ (ak (tC (V.int 0)) aq)) (aj 3)))
def Xo(K:PySem.W.Frag)(A:Ad):TS:=(aB (bB (aZ (aG (aaX K) (aj 3) (bQ (ak (tC (V.int 0)) (ak (tC (V.int 0)) aq))))) (aB (dg K (aj 0) (aU (yw K A) (ak (aj 2) aq)) "scheme") (Xn K A)) bA) (J9 K A))
def Xp(K:PySem.W.Frag)(A:Ad):TS:=(aB (aY (aU (Gs A) (ak (aj 2) aq)) (aJ 3)) (Xo K A))
def Xq(K:PySem.W.Frag)(A:Ad):TS:=(aB (aY (aU (Hl K A) (ak (aj 1) aq)) (aJ 2)) (Xp K A))
def z9(K:PySem.W.Frag)(A:Ad):TS:=(aB (bB (aZ (aG (bx fun i j=>.bl (decide (j<i))) (bU (fun xs H Q=>∃p ys,xs=[.ref p]∧(au K H p ys∨bK K H p ys)∧Q (.int ys.length) H) (ak (aj 1) aq)) (tC (V.int 20000)))) (aL (bQ (ak (tC (V.int (-1))) aq))) bA) (Xq K A))
def S7(K:PySem.W.Frag)(A:Ad):TS:=(aL (bQ (ak (tC (V.int 0)) (ak (aP K (aj 0) "state") aq))))
def S8(K:PySem.W.Frag)(A:Ad):TS:=(aB (dg K (aj 0) (aG (bx fun i j=>.int (Builtin.bitAnd i j)) (aj 1) (aP K (aP K (aj 0) "scheme") "mask")) "state") (S7 K A))
def yC(K:PySem.W.Frag)(A:Ad):TS:=(aB (bB (gA (aZ (lY (bx fun i j=>.bl (decide (i≤j))) (bx fun i j=>.bl (decide (i≤j))) (tC (V.int 0)) (aj 1) (tC (V.int 4294967295))))) (aL (bQ (ak (tC (V.int (-1))) aq))) bA) (S8 K A))
def Ul(K:PySem.W.Frag)(A:Ad):TS:=(aL (bQ (ak (tC (V.int 0)) aq)))
def Um(K:PySem.W.Frag)(A:Ad):TS:=(aB (dg K (aj 0) (aj 1) "order") (Ul K A))
def yP(K:PySem.W.Frag)(A:Ad):TS:=(aB (bB (aZ (aG (aaY K) (bU (Ks K) (ak (aj 1) aq)) (qF (ak (bU (fun xs H Q=>∃p ys,xs=[.ref p]∧(au K H p ys∨bK K H p ys)∧Q (.int ys.length) H) (ak (aP K (aP K (aj 0) "scheme") "coils") aq)) aq)))) (aL (bQ (ak (tC (V.int (-1))) aq))) bA) (Um K A))
def z_(K:PySem.W.Frag)(A:Ad):TS:=(aL (aG iW (bQ (ak (tC (V.int 0)) (ak (aP K (aj 0) "state") aq))) (aP K (aj 0) "order")))
def S9(K:PySem.W.Frag)(A:Ad):TS:=(aL (bQ (ak (tC (V.int 0)) (ak (aP K (aj 0) "state") aq))))
def yD(K:PySem.W.Frag)(A:Ad):TS:=(aB (dg K (aj 0) (aU (wj A) (ak (aP K (aj 0) "scheme") (ak (aP K (aj 0) "state") (ak (aP K (aj 0) "order") aq)))) "state") (S9 K A))
def zJ(K:PySem.W.Frag)(A:Ad):TS:=(aL (aG iW (bQ (ak (tC (V.int 0)) aq)) (aU (v8 A) (ak (aP K (aj 0) "scheme") (ak (aP K (aj 0) "state") (ak (aP K (aj 0) "order") aq))))))
theorem zY{x v:Nat}(h:x.testBit v=true):x=(x - 2^v) ||| 2^v∧(x - 2^v).testBit v=false:=by
 have hb:x / 2^v % 2=1:=by rw[Nat.testBit_eq_decide_div_mod_eq] at h;simpa using h
 have hp:0<2^v:=Nat.two_pow_pos v
 have hle:2^v≤x:=by
  rcases Nat.lt_or_ge x (2^v) with z|z
  ·rw[Nat.div_eq_of_lt z] at hb
   cases hb
  ·exact z
 have hd:(x - 2^v) / 2^v=x / 2^v - 1:=by
  have:=Nat.sub_mul_div x (2^v) 1
  simpa using this
 have hf:(x - 2^v).testBit v=false:=by
  rw[Nat.testBit_eq_decide_div_mod_eq,hd]
  have:(x / 2^v - 1) % 2=0:=by omega
  rw[this]
  rfl
 refine⟨?_,hf⟩
 rw[MB.uO,if_neg (by rw[hf];simp)]
 omega
def rF(l:Rung.Line):Prop:=Rung.isName (nameOf l)=true∧∀n∈gM l,n<64
theorem J_{lo hi k:Nat}{b:Rung.Bytes}(h:Rung.number lo hi b=some k):k≤hi:=by
 unfold Rung.number at h
 split at h
 ·cases h
 ·rename_i hn
  have:Rung.numberOf b=k:=Option.some.inj h
  have:¬hi<Rung.numberOf b:=fun z=>hn (.inr (.inr (.inr (.inr z))))
  omega
theorem YK{ps:List Rung.Bytes}{u:Rung.Name×Nat}(h:d7 ps=some u):Rung.isName u.1=true∧u.2<64:=by
 unfold d7 at h
 split at h
 ·split at h
  ·rename_i hx
   obtain⟨k,hk,e⟩:=Option.map_eq_some_iff.mp h
   have:=J_ hk
   subst e
   exact⟨hx.1,by show k<64;omega⟩
  ·cases h
 ·cases h
theorem Vm{op:Nat}{ps:List Rung.Bytes}{l:Rung.Line}(h:dZ op ps=some l):rF l:=by
 unfold dZ at h
 split at h
 ·split at h
  ·rename_i hx
   split at h
   ·rename_i a b ha hb
    split at h
    ·have:=J_ ha
     have:=J_ hb
     obtain rfl:=Option.some.inj h
     refine⟨hx,fun n hn=>?_⟩
     simp only[gM,List.mem_cons,List.mem_nil_iff,or_false] at hn
     omega
    ·cases h
   ·cases h
  ·cases h
 ·cases h
theorem ahV{ps:List Rung.Bytes}{l:Rung.Line}(h:u5 ps=some l):rF l:=by
 unfold u5 at h
 split at h
 ·cases h
 ·split at h
  ·unfold jY at h
   split at h
   ·split at h
    ·rename_i hx
     obtain rfl:=Option.some.inj h
     exact⟨hx,fun n hn=>by simp[gM] at hn⟩
    ·cases h
   ·cases h
  ·split at h
   ·unfold jN at h
    split at h
    ·obtain⟨u,hu,rfl⟩:=Option.map_eq_some_iff.mp h
     have:=YK hu
     exact⟨this.1,fun n hn=>by simp[gM] at hn;omega⟩
    ·cases h
   ·split at h
    ·obtain⟨u,hu,rfl⟩:=Option.map_eq_some_iff.mp h
     have:=YK hu
     exact⟨this.1,fun n hn=>by simp[gM] at hn;omega⟩
    ·split at h
     ·exact Vm h
     ·split at h
      ·exact Vm h
      ·cases h
theorem agX{b:Rung.Bytes}{l:Rung.Line}(h:Rung.lineIn b=some l):rF l:=ahV (by rw[←Xg];exact h)
theorem Xr{t:Rung.Bytes}{l:Rung.Line}(h:some l∈rowsOf t):rF l:=by
 unfold rowsOf at h
 obtain⟨u,_,hu⟩:=List.mem_map.mp h
 split at hu
 ·cases hu
 ·exact agX hu
theorem agY{p:List Rung.Line}{x:Rung.Name}{v:Nat}(h:Rung.varOf p x=some v):(Rung.schemeOf p).hasVar v=true:=by
 unfold Rung.varOf at h
 unfold Rung.Scheme.hasVar
 rw[Ay,uQ,List.length_map,List.length_map]
 split at h
 ·rename_i i hi
  obtain rfl:=Option.some.inj h
  have:=(List.findIdx?_eq_some_iff_findIdx_eq.mp hi).1
  simp[this]
 ·obtain⟨j,hj,rfl⟩:=Option.map_eq_some_iff.mp h
  have:=(List.findIdx?_eq_some_iff_findIdx_eq.mp hj).1
  simp
  right
  exact this
theorem ai4{p:List Rung.Line}(hl:∀l∈p,rF l)(hf:Rung.faultIn p=none):iV (Rung.schemeOf p):=by
 obtain⟨_,h2,_,h4⟩:=Vl hf
 refine⟨?_,?_,?_,?_,?_,?_⟩
 ·rw[Ay,List.length_map]
  exact rm h2 0
 ·rw[uQ,List.length_map]
  exact rm h2 1
 ·rw[Az,List.length_map]
  exact rm h2 3
 ·intro c hc
  rw[Az] at hc
  obtain⟨l,hm,rfl⟩:=List.mem_map.mp hc
  obtain⟨h1,h3⟩:=List.mem_filter.mp hm
  have:=(hl l h1).2
  cases l<;>simp[Rung.Line.sort] at h3
  exact⟨this _ (by simp[gM,eN]),this _ (by simp[gM,eN])⟩
 ·intro r hr
  rw[uQ] at hr
  obtain⟨l,hm,rfl⟩:=List.mem_map.mp hr
  obtain⟨h1,h3⟩:=List.mem_filter.mp hm
  have:=(hl l h1).2
  cases l<;>simp[Rung.Line.sort] at h3
  exact this _ (by simp[gM,aaE])
 ·intro c hc
  rw[Az] at hc
  obtain⟨l,hm,rfl⟩:=List.mem_map.mp hc
  obtain⟨h1,h3⟩:=List.mem_filter.mp hm
  cases l<;>simp[Rung.Line.sort] at h3
  rename_i c x a b
  obtain⟨i,hi⟩:=List.getElem?_of_mem h1
  have hb:=KY h4 hi
  simp only[h_] at hb
  cases e:Rung.varOf p x with
  |none=>rw[e] at hb;cases hb
  |some v=>
   simp only[eN,e,Option.getD_some]
   exact agY e
theorem ahW:BP RungScanSeed.start:=⟨⟨by decide,by decide,by decide,fun c hc=>by simp[RungScanSeed.start] at hc,fun c hc=>by simp[RungScanSeed.start] at hc,fun c hc=>by simp[RungScanSeed.start] at hc⟩,rfl,fun j hj=>by simp[RungScanSeed.start] at hj,List.nodup_nil,fun v hv=>by simp[RungScanSeed.start] at hv⟩
theorem uF(x j v:Nat)(b:Bool):(Rung.put x j b).testBit v=if v=16+j then b else x.testBit v:=by
 cases b with
 |true=>
  rw[MB.ahu,Nat.testBit_or,Nat.testBit_two_pow]
  by_cases e:v=16+j
  ·simp[e]
  ·rw[if_neg e,decide_eq_false (fun z=>e z.symm),Bool.or_false]
 |false=>
  unfold Rung.put
  rw[MB.lZ]
  by_cases c:x.testBit (16+j)=false
  ·rw[if_pos c]
   by_cases e:v=16+j
   ·rw[e,if_pos rfl,c]
   ·rw[if_neg e]
  ·have c':x.testBit (16+j)=true:=by simpa using c
   rw[if_neg c]
   unfold Rung.turned
   rw[MB.lZ,if_pos c']
   have hx:x=(x - 2^(16+j)) ||| 2^(16+j)∧(x - 2^(16+j)).testBit (16+j)=false:=zY c'
   by_cases e:v=16+j
   ·rw[e,if_pos rfl,hx.2]
   ·rw[if_neg e]
    conv=>rhs;rw[hx.1,Nat.testBit_or,Nat.testBit_two_pow,decide_eq_false (fun z=>e z.symm),Bool.or_false]
theorem agZ{s:Rung.Scheme}{x j:Nat}(h:∀v,x.testBit v=true→s.hasVar v=true):∀v,(Rung.rung s x j).testBit v=true→s.hasVar v=true:=by
 intro v hv
 unfold Rung.rung at hv
 split at hv
 ·rename_i r hr
  rw[uF] at hv
  split at hv
  ·rename_i e
   have:=(List.getElem?_eq_some_iff.mp hr).1
   unfold Rung.Scheme.hasVar
   subst e
   simp
   right
   exact this
  ·exact h v hv
 ·exact h v hv
theorem Ka{s:Rung.Scheme}:∀(o:List Nat) (x:Nat),(∀v,x.testBit v=true→s.hasVar v=true)→∀v,(Rung.pass s o x).testBit v=true→s.hasVar v=true
 | [],_,h=>h
 |j::r,x,h=>Ka r (Rung.rung s x j) (agZ h)
theorem afM(s:Rung.Scheme)(x:Nat):∀v,(s.clean x).testBit v=true→s.hasVar v=true:=by
 intro v hv
 rw[MB.Yl,Nat.testBit_and] at hv
 have:=(Bool.and_eq_true_iff.mp hv).2
 unfold MB.maskOf at this
 rw[MB.jF] at this
 exact(Bool.and_eq_true_iff.mp this).2
theorem ai5(st:Sd)(t:Rung.Bytes):RungScanSeed.step st (.load t)=if 20000<t.length then(st,[-1]) else match Rung.all (rowsOf t) 0 with
 | .error k=>(st,[0,1,(k:Int)])
 | .ok p=>match Rung.faultIn p with
   |some f=>(st,[0,(f.1:Int),(f.2:Int)])
   |none=>(⟨Rung.schemeOf p,0,List.range (Rung.schemeOf p).relays.length⟩,[0,0,0]):=by
 show(if RungScanSeed.LONGEST<t.length then(st,RungScanSeed.no 1) else(match Rung.readText t with
  | .error f=>(st,RungScanSeed.tells [(f.1:Int),(f.2:Int)])
  | .ok z=>(⟨z,0,List.range z.relays.length⟩,RungScanSeed.tells [0,0])))=_
 unfold Rung.readText
 show(if RungScanSeed.LONGEST<t.length then(st,RungScanSeed.no 1) else(match(match Rung.all (rowsOf t) 0 with
  | .error k=>Except.error (1,k)
  | .ok p=>match Rung.faultIn p with
    |some f=>.error f
    |none=>.ok (Rung.schemeOf p)) with
  | .error f=>(st,RungScanSeed.tells [(f.1:Int),(f.2:Int)])
  | .ok z=>(⟨z,0,List.range z.relays.length⟩,RungScanSeed.tells [0,0])))=_
 have e:RungScanSeed.LONGEST=20000:=rfl
 rw[e]
 split
 ·rfl
 ·cases Rung.all (rowsOf t) 0 with
  |error k=>rfl
  |ok p=>
   dsimp only
   cases Rung.faultIn p<;>rfl
theorem PG.same{A:Ad}{G H H':Hp}{P d:Addr}{st:Sd}{n:Nat}(h:PG A G H P st d n)(s:Same H H'):PG A G H' P st d n:=by
 obtain⟨⟨dx,v,o,h1,h2,h3⟩,h4,h5,h6,h7,h8,h9⟩:=h
 exact⟨⟨dx,v,o,s _ _ h1,h2,h3⟩,fun b u e=>s _ _ (h4 b u e),h5,h6,h7,h8,h9.same s⟩
theorem PG.le{A:Ad}{G H:Hp}{P d:Addr}{st:Sd}{n m:Nat}(h:PG A G H P st d n)(l:n≤m):PG A G H P st d m:=⟨h.at_,h.sub,h.out,h.off,h.pd,h.ok,h.d8.le l⟩
theorem PG.more{A:Ad}{G H:Hp}{P d:Addr}{st:Sd}{n:Nat}(h:PG A G H P st d n):PG A G H P st d (n+20000):=h.le (Nat.le_add_right _ _)
theorem PG.near{A:Ad}{G H H':Hp}{P d:Addr}{st:Sd}{n m:Nat}(h:PG A G H P st d n)(s:Near d H H')(w:cD H' d st.scheme m):PG A G H' P st d m:=by
 obtain⟨⟨dx,v,o,h1,h2,h3⟩,h4,h5,h6,h7,h8,h9⟩:=h
 exact⟨⟨dx,v,o,s.get h7 h1,h2,h3⟩,fun b u e=>s.get (bM e h6) (h4 b u e),h5,h6,h7,h8,w⟩
theorem PG.oH{A:Ad}{G H:Hp}{P d:Addr}{st:Sd}{n:Nat}(h:PG A G H P st d n){v:V}(hv:gJ A G v st.scheme d):eO A H v st.scheme d n:=⟨hv.mono (akb h.sub h.off),h.ok.well,h.d8⟩
theorem PG.put{A:Ad}{G' H:Hp}{P dx o d:Addr}{v:V}{st:Sd}{n:Nat}(h1:gJ A G' v st.scheme d)(h2:G' o=some (.lst (nV st.order)))(s:Same G' H)(out:G' P=none)(off:G' d=none)(pd:P≠d)(ok:BP st)(w:cD H d st.scheme n):PG A G' (upd H P (.ins A.program dx (cT v st.x o))) P st d n:=
 ⟨⟨dx,v,o,aC,h1,h2⟩,fun b u e=>by rw[aH (bM e out)];exact s b u e,out,off,pd,ok,w.put pd⟩
theorem uI(l:List Nat):nV l=(RungScanSeed.nums l).map V.int:=by
 unfold nV RungScanSeed.nums
 rw[List.map_map]
 rfl
theorem zm{n:Nat}(h:n≤100000):n≤sizeLine:=by rw[sizeLine_eq];omega
section
variable{K:PySem.W.Frag}{mg:Str→Option Value}{A:Ad}
theorem akc(T:Tx K mg A)(vs:List V)(H:Hp)(Q:VK)(E:XK)(h:Mf K A vs H Q E):z_ K A {nx:=fun _ H'=>Q .non H',rt:=Q} (L2.start ["program"] vs) H:=by
 obtain⟨P,B,G,st,d,n,rfl,pg,hn,hB,q⟩:=h
 obtain⟨⟨dx,v,o,h1,h2,h3⟩,h4,h5,f9,dU,h6,h7⟩:=id pg
 show z_ K A _ [some (.ref P)] H
 unfold z_
 walk_at"rd"
 have hlen:=h6.len
 have hrel:=h6.well.rel
 refine⟨_,dx,_,h1,T.bY,T.gj,_,lD _ _ _,zm (by simp),fun p hp=>?_⟩
 have s1:Same H (upd H p (.lst [.int 0,.int (st.x:Int)])):=bI hp
 refine⟨_,dx,_,s1 _ _ h1,T.bY,T.j4,_,uw _ _ _,o,rfl,_,aC,_,s1 _ _ (h4 _ _ h3),zm (by simp[nV];omega),fun p2 hp2=>?_⟩
 have hp2':H p2=none:=s1.free hp2
 have s2:=cC (o:=.lst ([V.int 0,.int (st.x:Int)]++nV st.order)) s1 hp2'
 refine q _ G p2 d (But.same s2) hp2' ?_ (pg.same s2).more (fun b hb=>.inl hb) (h4.free hp2') (.inl rfl) (h7.same s2).ne
 rw[aC,uI]
 rfl
theorem ai6(T:Tx K mg A)(vs:List V)(H:Hp)(Q:VK)(E:XK)(h:KZ K A vs H Q E):zJ K A {nx:=fun _ H'=>Q .non H',rt:=Q} (L2.start ["program"] vs) H:=by
 obtain⟨P,B,G,st,d,n,rfl,pg,hn,hB,q⟩:=h
 obtain⟨⟨dx,v,o,h1,h2,h3⟩,h4,h5,f9,dU,h6,h7⟩:=id pg
 show zJ K A _ [some (.ref P)] H
 unfold zJ
 walk_at"rd"
 have hlen:=h6.len
 have hrel:=h6.well.rel
 refine⟨zm (by simp),fun p hp=>?_⟩
 have s1:Same H (upd H p (.lst [.int 0])):=bI hp
 refine⟨_,dx,_,s1 _ _ h1,T.bY,T.dW,_,fB _ _ _,_,dx,_,s1 _ _ h1,T.bY,T.gj,_,lD _ _ _,_,dx,_,s1 _ _ h1,T.bY,T.j4,_,uw _ _ _,?_⟩
 refine⟨v,st.scheme,st.x,o,st.order,d,n,rfl,(pg.oH h2).same s1,by omega,s1 _ _ (h4 _ _ h3),by omega,h6.lt,fun w H2 s2 d2 ⟨r,ew,hr⟩=>?_⟩
 subst ew
 have hr2:=bW _ _ _ _ hr
 have hlr:(Rung.rungs st.scheme st.order st.x).length≤12:=by rw[ur];omega
 have hpd:p≠d:=fun z=>h7.ne (by rw[←z];exact hp)
 refine⟨r,rfl,_,s2.get hpd aC,_,hr2,zm (by simp[nV];omega),fun p2 hp2=>?_⟩
 have s12:=(Near.of (d:=d) s1).trans s2
 have hp2':H p2=none:=s12.free d2.ne hp2
 have pg2:=pg.near s12 d2
 refine q _ G p2 d ((But.near s12).trans (But.same (bI hp2))) hp2' ?_ ((pg2.same (bI hp2)).le (by omega)) (fun b hb=>.inl hb) (h4.free hp2') (.inl rfl) (d2.upd hp2).ne
 rw[aC,uI]
 rfl
end
theorem ai7(a b:Int):PyData.eqv (.int a) (.int b)=decide (a=b):=by
 simp only[PyData.eqv]
 rw[Bool.eq_iff_iff,beq_iff_eq,decide_eq_true_eq]
theorem Vn:∀ns ms:List Int,PyData.eqvAll (ns.map PyData.int) (ms.map PyData.int)=decide (ns=ms)
 | [],[]=>by simp[PyData.eqvAll]
 | [],_::_=>by simp[PyData.eqvAll]
 |_::_,[]=>by simp[PyData.eqvAll]
 |a::r,b::s=>by
  rw[List.map_cons,List.map_cons,PyData.eqvAll,Vn r s,ai7]
  rw[Bool.eq_iff_iff]
  simp
theorem YL(ns ms:List Int):PyData.eqv (.list (ns.map PyData.int)) (.list (ms.map PyData.int))=decide (ns=ms):=by
 rw[PyData.eqv]
 exact Vn ns ms
theorem aan{K:PySem.W.Frag}{H:Hp}:∀ns:List Int,n6 K H (ns.map V.int) (ns.map PyData.int)
 | []=>.nil
 |n::r=>.cons (.int n) (aan r)
theorem Aa{K:PySem.W.Frag}{H:Hp}{a:Addr}{ns:List Int}(h:au K H a (ns.map V.int)):Dp K H (.ref a) (.list (ns.map PyData.int)):=.lst h (aan ns)
theorem afN:∀ns:List Int,PyData.depth (.list (ns.map PyData.int))≤2∧PyData.canLay0 (.list (ns.map PyData.int))=true:=by
 intro ns
 induction ns with
 |nil=>constructor<;>decide+kernel
 |cons n r ih=>
  constructor
  ·have:=ih.1
   simp only[PyData.depth,List.map_cons] at this⊢
   simp[PyData.depth,PyData.depthAll] at this⊢
   omega
  ·have:=ih.2
   simp[PyData.canLay0,PyData.canLayAll0] at this⊢
   exact this
theorem shaped_ints(ns:List Int):SeqAt.shaped (.list (ns.map PyData.int))=true:=by
 obtain⟨h1,h2⟩:=afN ns
 unfold SeqAt.shaped
 rw[h2,Bool.true_and,decide_eq_true_eq]
 omega
theorem qe(v:V)(x:Nat)(o:Addr):(cT v x o).length<1000:=by show 3<1000;decide
theorem ai8(s:Rung.Scheme):n_ s.relays.length=MP.BJ s:=rfl
theorem oY{s:Rung.Scheme}(hw:iV s):rR s.inputs.length s.relays.length=MB.maskOf s:=by
 refine Nat.eq_of_testBit_eq fun v=>?_
 unfold rR
 rw[ai8,Nat.testBit_or,MP.Yr,Nat.testBit_two_pow_sub_one,MP.Jh]
 unfold Rung.Scheme.hasVar
 have:=hw.ins
 have:=hw.rel
 by_cases c:v<32
 ·rw[decide_eq_true c,Bool.true_and]
 ·rw[decide_eq_false c,Bool.false_and,decide_eq_false (by omega),Bool.false_or]
  cases e:decide (v - 16<s.relays.length) with
  |false=>simp
  |true=>rw[decide_eq_true_eq] at e;omega
section
variable{K:PySem.W.Frag}{mg:Str→Option Value}{A:Ad}
theorem aeQ(T:Tx K mg A)(vs:List V)(H:Hp)(Q:VK)(E:XK)(h:HJ K A vs H Q E):yD K A {nx:=fun _ H'=>Q .non H',rt:=Q} (L2.start ["program"] vs) H:=by
 obtain⟨P,B,G,st,d,n,rfl,pg,hn,hB,q⟩:=h
 obtain⟨⟨dx,v,o,h1,h2,h3⟩,h4,h5,f9,dU,h6,h7⟩:=id pg
 show yD K A _ [some (.ref P)] H
 unfold yD S9
 walk_at"rd"
 have hlen:=h6.len
 have hrel:=h6.well.rel
 refine⟨_,dx,_,h1,T.bY,T.dW,_,fB _ _ _,_,dx,_,h1,T.bY,T.gj,_,lD _ _ _,_,dx,_,h1,T.bY,T.j4,_,uw _ _ _,?_⟩
 refine⟨v,st.scheme,st.x,o,st.order,d,n,rfl,pg.oH h2,by omega,h4 _ _ h3,by omega,h6.lt,fun w H2 s2 d2 ew=>?_⟩
 subst ew
 refine⟨_,dx,_,s2.get dU h1,T.bY,T.gj,qe _ _ _,?_⟩
 rw[zj]
 refine⟨_,dx,_,aC,T.bY,T.gj,_,lD _ _ _,len2 _ _,fun p hp=>?_⟩
 have qg:p≠P:=fun e=>by subst e;rw[aC] at hp;cases hp
 have hp2:H2 p=none:=by rw[aH qg] at hp;exact hp
 have hp':H p=none:=s2.free d2.ne hp2
 refine q _ G p d ((But.near s2).trans (((But.refl).upd).trans (But.same (bI hp)))) hp' ?_ (((PG.put (st:={st with x:=Rung.pass st.scheme st.order st.x}) h2 h3 (fun b u e=>s2.get (bM e f9) (h4 b u e)) h5 f9 dU ⟨h6.well,h6.len,h6.lt,h6.nd,Ka _ _ h6.bits⟩ d2).same (bI hp)).le (by omega)) (fun b hb=>.inl hb) (h4.free hp') (.inl rfl) ((d2.put dU).upd hp).ne
 rw[aC]
 rfl
theorem aeR(T:Tx K mg A)(vs:List V)(H:Hp)(Q:VK)(E:XK)(h:HF K A vs H Q E):yC K A {nx:=fun _ H'=>Q .non H',rt:=Q} (L2.start ["program","x"] vs) H:=by
 obtain⟨P,B,G,st,x,d,n,rfl,pg,hB,q⟩:=h
 obtain⟨⟨dx,v,o,h1,h2,h3⟩,h4,h5,f9,dU,h6,h7⟩:=id pg
 show yC K A _ [some (.ref P),some (.int x)] H
 have hst:RungScanSeed.step st (.set x)=if RungScanSeed.within x 4294967296=false then(st,[-1]) else({st with x:=st.scheme.clean x.toNat},[0,((st.scheme.clean x.toNat:Nat):Int)]):=rfl
 rw[hst] at q
 have hw:RungScanSeed.within x 4294967296=(decide (0≤x)&&decide (x≤4294967295)):=by
  unfold RungScanSeed.within
  congr 1
  rw[decide_eq_decide]
  omega
 rw[hw] at q
 unfold yC S8 S7
 walk_at"rd"
 have no:∀q':Done A B G H P d n Q (st,[-1]),[V.int (-1)].length≤sizeLine∧∀p,H p=none→Q (.ref p) (upd H p (.lst [.int (-1)])):=fun q'=>⟨len1 _,fun p hp=>q' _ G p d (But.same (bI hp)) hp aC (pg.same (bI hp)).more (fun b hb=>.inl hb) (h4.free hp) (.inl rfl) (h7.upd hp).ne⟩
 by_cases c1:0≤x
 ·rw[if_pos c1]
  by_cases c2:x≤4294967295
  ·rw[decide_eq_true c2,if_neg (by simp)]
   rw[decide_eq_true c1,decide_eq_true c2,Bool.true_and,if_neg (by simp)] at q
   obtain⟨a,gG,lc,lk,cs,ev,ha,_⟩:=id h2
   subst ev
   refine⟨_,dx,_,h1,T.bY,T.dW,_,fB _ _ _,a,rfl,_,gG,_,h4 _ _ ha,T.cW,T.qy,_,KQ _ _ _ _ _,_,rfl,?_⟩
   rw[oY h6.well,bitAnd_pp c1 (by omega),Int.toNat_natCast,←MB.Yl]
   refine⟨_,dx,_,h1,T.bY,T.gj,qe _ _ _,?_⟩
   rw[zj]
   refine⟨_,dx,_,aC,T.bY,T.gj,_,lD _ _ _,len2 _ _,fun p hp=>?_⟩
   have qg:p≠P:=fun e=>by subst e;rw[aC] at hp;cases hp
   have hp2:H p=none:=by rw[aH qg] at hp;exact hp
   refine q _ G p d (((But.refl).upd).trans (But.same (bI hp))) hp2 ?_ ((PG.put (st:={st with x:=st.scheme.clean x.toNat}) h2 h3 h4 h5 f9 dU ⟨h6.well,h6.len,h6.lt,h6.nd,afM _ _⟩ h7).same (bI hp)).more (fun b hb=>.inl hb) (h4.free hp2) (.inl rfl) ((h7.put dU).upd hp).ne
   rw[aC]
   rfl
  ·rw[decide_eq_false c2,if_pos rfl]
   rw[decide_eq_false c2,Bool.and_false,if_pos rfl] at q
   exact no q
 ·rw[if_neg c1]
  rw[decide_eq_false c1,Bool.false_and,if_pos rfl] at q
  exact no q
end
theorem afO{l:List Nat}{n:Nat}(nd:l.Nodup)(h:∀x∈l,x<n)(e:l.length=n):l.Perm (List.range n):=by
 rw[List.perm_ext_iff_of_nodup nd List.nodup_range]
 intro a
 rw[List.mem_range]
 refine⟨h a,fun ha=>?_⟩
 by_cases hm:a∈l
 ·exact hm
 ·have:=lG n (a::l) (List.nodup_cons.mpr ⟨hm,nd⟩) fun x hx=>by
   rcases List.mem_cons.mp hx with z|z
   ·rw[z];exact ha
   ·exact h x z
  rw[List.length_cons] at this
  omega
theorem ai9(n:Nat):(upto n).Pairwise (· ≤ ·):=by
 unfold upto
 rw[List.pairwise_map]
 exact List.pairwise_lt_range.imp fun h=>by omega
theorem YM{o:List Int}(h:(o.all fun(j:Int)=>decide (0≤j))=true):(o.map Int.toNat).map (fun(n:Nat)=>(n:Int))=o:=by
 rw[List.map_map]
 conv=>rhs;rw[←List.map_id o]
 refine List.map_congr_left fun j hj=>?_
 have:=of_decide_eq_true (List.all_eq_true.mp h j hj)
 simp only[Function.comp_def,id]
 omega
theorem aao{o:List Int}(h:(o.all fun(j:Int)=>decide (0≤j))=true):nV (o.map Int.toNat)=o.map V.int:=by
 rw[uI]
 unfold RungScanSeed.nums
 rw[YM h]
theorem ZJ{o ns:List Int}{s:Rung.Scheme}(hp:ns.Perm o)(hs:ns.Pairwise (· ≤ ·)):ns=upto s.relays.length↔(o.all fun(j:Int)=>decide (0≤j))=true∧Rung.isOrder s (o.map Int.toNat)=true:=by
 constructor
 ·intro e
  have hm:∀j,j∈o↔∃k,k<s.relays.length∧(k:Int)=j:=fun j=>by
   rw[←hp.mem_iff,e]
   simp[upto]
  have ha:(o.all fun(j:Int)=>decide (0≤j))=true:=List.all_eq_true.mpr fun j hj=>by
   obtain⟨k,_,rfl⟩:=(hm j).mp hj
   exact decide_eq_true (by omega)
  refine⟨ha,?_⟩
  have hpm:(o.map Int.toNat).Perm (List.range s.relays.length):=by
   have:=(hp.symm.map Int.toNat)
   rw[e] at this
   unfold upto at this
   rw[List.map_map] at this
   have e2:(List.range s.relays.length).map (Int.toNat∘fun(i:Nat)=>(i:Int))=List.range s.relays.length:=by
    conv=>rhs;rw[←List.map_id (List.range s.relays.length)]
    exact List.map_congr_left fun j _=>by simp
   rw[e2] at this
   exact this
  unfold Rung.isOrder
  rw[hpm.length_eq,List.length_range]
  have nd:(o.map Int.toNat).Nodup:=hpm.nodup_iff.mpr List.nodup_range
  have hall:((o.map Int.toNat).all fun(j:Nat)=>decide (j<s.relays.length))=true:=List.all_eq_true.mpr fun j hj=>decide_eq_true (List.mem_range.mp (hpm.mem_iff.mp hj))
  rw[hall,decide_eq_true nd]
  simp
 ·rintro⟨ha,ho⟩
  unfold Rung.isOrder at ho
  simp only[Bool.and_eq_true,beq_iff_eq,decide_eq_true_eq] at ho
  obtain⟨h1,h2,h3⟩:=ho
  have hpm:=afO h3 (fun x hx=>of_decide_eq_true (List.all_eq_true.mp h2 x hx)) h1
  have:=hpm.map fun(n:Nat)=>(n:Int)
  rw[YM ha] at this
  exact List.Perm.eq_of_pairwise (fun a b _ _ h h'=>by omega) hs (ai9 _) (hp.trans this)
theorem afP(st:Sd)(o:List Int):RungScanSeed.step st (.arrange o)=if(o.all fun(j:Int)=>decide (0≤j))=true∧Rung.isOrder st.scheme (o.map Int.toNat)=true then({st with order:=o.map Int.toNat},[0]) else(st,[-1]):=by
 show(if(o.all fun(j:Int)=>decide (0≤j))=false∨Rung.isOrder st.scheme (o.map Int.toNat)=false then(st,RungScanSeed.no 1) else({st with order:=o.map Int.toNat},RungScanSeed.tells []))=_
 by_cases h1:(o.all fun(j:Int)=>decide (0≤j))=true
 ·by_cases h2:Rung.isOrder st.scheme (o.map Int.toNat)=true
  ·rw[if_neg (by simp[h1,h2]),if_pos ⟨h1,h2⟩]
   rfl
  ·rw[if_pos (.inr (by simpa using h2)),if_neg (by simp[h2])]
   rfl
 ·rw[if_pos (.inl (by simpa using h1)),if_neg (by simp[h1])]
  rfl
theorem M_{s:Rung.Scheme}{o:List Nat}(h:Rung.isOrder s o=true):o.length=s.relays.length∧(∀j∈o,j<s.relays.length)∧o.Nodup:=by
 unfold Rung.isOrder at h
 simp only[Bool.and_eq_true,beq_iff_eq,decide_eq_true_eq] at h
 exact⟨h.1,fun x hx=>of_decide_eq_true (List.all_eq_true.mp h.2.1 x hx),h.2.2⟩
section
variable{K:PySem.W.Frag}{mg:Str→Option Value}{A:Ad}
theorem ag0(T:Tx K mg A)(vs:List V)(H:Hp)(Q:VK)(E:XK)(h:Jv K A vs H Q E):yP K A {nx:=fun _ H'=>Q .non H',rt:=Q} (L2.start ["program","order"] vs) H:=by
 obtain⟨P,a,B,G,st,o,d,n,rfl,pg,hB,hat,hBa,hlo,q⟩:=h
 obtain⟨⟨dx,v,oo,h1,h2,h3⟩,h4,h5,f9,dU,h6,h7⟩:=id pg
 show yP K A _ [some (.ref P),some (.ref a)] H
 rw[afP] at q
 have hrel:=h6.well.rel
 obtain⟨as,gG,lc,lk,cs,ev,ha,hc,_⟩:=id h2
 subst ev
 unfold yP Um Ul
 walk_at"rd"
 unfold Ks
 refine⟨a,o,rfl,au.of hat,fun ns p hperm aaL hp=>?_⟩
 obtain⟨H1,e1,s1,hp1⟩:=ab (.lst (ns.map V.int)) hp
 rw[e1]
 unfold qF
 walk_at"rd"
 refine⟨_,dx,_,s1 _ _ h1,T.bY,T.dW,_,fB _ _ _,as,rfl,_,gG,_,s1 _ _ (h4 _ _ ha),T.cW,T.iJ,_,j7 _ _ _ _ _,lc,rfl,_,.inl (au.of (s1 _ _ (h4 _ _ hc))),st.scheme.relays.length,?_,by omega,fun p2 hp2=>?_⟩
 ·simp[nV]
 obtain⟨H2,e2,s2,pP⟩:=ab (.lst ((upto st.scheme.relays.length).map V.int)) hp2
 rw[e2]
 have s12:=s1.trans s2
 refine⟨_,_,Aa (au.of (s2 _ _ hp1)),Aa (au.of pP),shaped_ints _,shaped_ints _,?_⟩
 rw[YL]
 simp only[V.bl.injEq,exists_eq_left']
 by_cases c:ns=upto st.scheme.relays.length
 ·rw[decide_eq_true c,if_neg (by simp)]
  obtain⟨c1,c2⟩:=(ZJ hperm aaL).mp c
  rw[if_pos ⟨c1,c2⟩] at q
  refine⟨_,dx,_,s12 _ _ h1,T.bY,T.j4,qe _ _ _,?_⟩
  rw[Xl]
  refine⟨len1 _,fun p3 hp3=>?_⟩
  have qg:p3≠P:=fun e=>by subst e;rw[aC] at hp3;cases hp3
  have alm:H2 p3=none:=by rw[aH qg] at hp3;exact hp3
  have hp':H p3=none:=s12.free alm
  have hPa:a≠P:=fun e=>by subst e;rw[h1] at hat;cases hat
  have aln:=s12 _ _ hat
  have sG:Same (upd G a (.lst (nV (o.map Int.toNat)))) H2:=fun b u e=>by
   by_cases hb:b=a
   ·subst hb
    rw[aC] at e
    cases e
    rw[aln]
    rw[aao c1]
   ·rw[aH hb] at e
    exact s12 _ _ (h4 _ _ e)
  have sGG:Same G (upd G a (.lst (nV (o.map Int.toNat)))):=fun b u e=>by
   by_cases hb:b=a
   ·subst hb
    have:=h4 _ _ e
    rw[hat] at this
    cases this
    rw[aC,aao c1]
   ·rw[aH hb]
    exact e
  have had:a≠d:=fun z=>by obtain⟨k,h',_⟩:=h7;rw[←z,hat] at h';cases h'
  refine q _ (upd G a (.lst (nV (o.map Int.toNat)))) p3 d ((But.same s12).trans (((But.refl).upd).trans (But.same (bI hp3)))) hp' ?_ ((PG.put (st:={st with order:=o.map Int.toNat}) (h2.mono sGG) aC sG (by rw[aH (Ne.symm hPa)];exact h5) (by rw[aH (Ne.symm had)];exact f9) dU ⟨h6.well,(M_ c2).1,(M_ c2).2.1,(M_ c2).2.2,h6.bits⟩ (h7.same s12)).same (bI hp3)).more (fun b hb=>?_) ?_ (.inl rfl) (((h7.same s12).put dU).upd hp3).ne
  ·rw[aC]
   rfl
  ·by_cases hb':b=a
   ·subst hb'
    exact .inr hBa
   ·rw[aH hb'] at hb
    exact .inl hb
  ·have:p3≠a:=fun e=>by subst e;rw[hat] at hp';cases hp'
   rw[aH this]
   exact h4.free hp'
 ·rw[decide_eq_false c,if_pos (by simp)]
  rw[if_neg (fun z=>c ((ZJ hperm aaL).mpr z))] at q
  refine⟨len1 _,fun p3 hp3=>?_⟩
  have hp':H p3=none:=s12.free hp3
  have s3:=cC (o:=.lst [.int (-1)]) s12 hp'
  exact q _ G p3 d (But.same s3) hp' aC (pg.same s3).more (fun b hb=>.inl hb) (h4.free hp') (.inl rfl) (h7.same s3).ne
end
theorem ahX(n:Nat):(upto n).map V.int=nV (List.range n):=by
 rw[uI]
 rfl
theorem afQ(t:Rung.Bytes):(kJ t).length=t.length:=by unfold kJ;rw[List.length_map]
theorem V_{os:List (Option Rung.Line)}:(eF os=(0,0))↔∃p,Rung.all os 0= .ok p∧Rung.faultIn p=none:=by
 unfold eF
 cases h:Rung.all os 0 with
 |error k=>simp
 |ok p=>
  dsimp only
  cases hf:Rung.faultIn p with
  |none=>simp[hf]
  |some f=>
   have:f.1≠0:=by
    rw[oU] at hf
    repeat' split at hf
    all_goals first|(cases hf;simp;done)|skip
    obtain⟨k,_,rfl⟩:=Option.map_eq_some_iff.mp hf
    simp
   constructor
   ·intro e
    dsimp only at e
    rw[e] at this
    exact absurd rfl this
   ·rintro⟨p',e,h'⟩
    cases e
    rw[hf] at h'
    cases h'
theorem ahY(st:Sd)(t:Rung.Bytes):RungScanSeed.step st (.load t)=if 20000<t.length then(st,[-1]) else if eF (rowsOf t)=(0,0) then(⟨Rung.schemeOf ((rowsOf t).filterMap id),0,List.range (Rung.schemeOf ((rowsOf t).filterMap id)).relays.length⟩,[0,0,0]) else(st,[0,((eF (rowsOf t)).1:Int),((eF (rowsOf t)).2:Int)]):=by
 rw[ai5]
 by_cases c:20000<t.length
 ·rw[if_pos c,if_pos c]
 rw[if_neg c,if_neg c]
 by_cases c0:eF (rowsOf t)=(0,0)
 ·rw[if_pos c0]
  obtain⟨pl,hall,hfi⟩:=V_.mp c0
  rw[hall]
  dsimp only
  rw[hfi]
  rw[KN (rowsOf t) 0] at hall
  cases hn:(rowsOf t).findIdx? Option.isNone with
  |some j=>rw[hn] at hall;cases hall
  |none=>
   rw[hn] at hall
   cases hall
   rfl
 ·rw[if_neg c0]
  unfold eF at c0⊢
  cases hh:Rung.all (rowsOf t) 0 with
  |error k=>rfl
  |ok p=>
   rw[hh] at c0
   dsimp only at c0⊢
   cases hff:Rung.faultIn p with
   |some f=>rfl
   |none=>rw[hff] at c0;exact absurd rfl c0
theorem akd{P d:Addr}{H H4 H7:Hp}{o:HO}(h:But P d H4 H7)(hP:H P=some o)(hd:H d≠none):Same (nw H H4) (nw H H7):=fun b u e=>by
 obtain⟨e1,e2⟩:=cu e
 refine bO e1 (h b u (fun z=>?_) (fun z=>hd (by rw[←z];exact e1)) e2)
 subst z
 rw[hP] at e1
 cases e1
theorem zp{d:Addr}{H H':Hp}(s:Same H H'):Same (hide d H) (hide d H'):=Near.of s
theorem Vo{C:Addr}{G:Hp}:∀{xs:List V} {os:List (Option Rung.Line)} {p:List Rung.Line},Paired (dO C G) xs os→os=p.map some→Paired (pN C G) xs p
 |_,_,[],.nil,_=>.nil
 |_,_,_::_,.nil,e=>by cases e
 |_,_,[],.cons _ _,e=>by cases e
 |_,_,l::r,.cons h t,e=>by
  rw[List.map_cons] at e
  obtain⟨e1,e2⟩:=List.cons.inj e
  subst e1
  exact .cons h (Vo t e2)
section
variable{K:PySem.W.Frag}{mg:Str→Option Value}{A:Ad}
theorem ake(T:Tx K mg A)(vs:List V)(H:Hp)(Q:VK)(E:XK)(h:L_ K A vs H Q E):z9 K A {nx:=fun _ H'=>Q .non H',rt:=Q} (L2.start ["program","text","rows","fault"] vs) H:=by
 obtain⟨P,a,B,G,st,t,d,n,rfl,pg,hB,hat,hlo,q⟩:=h
 obtain⟨⟨dx,v,oo,h1,h2,h3⟩,h4,h5,f9,dU,h6,h7⟩:=id pg
 have hdn:=h7.ne
 show z9 K A _ [some (.ref P),some (.ref a),none,none] H
 rw[ahY] at q
 unfold z9
 walk_at"rd"
 refine⟨_,.inl (au.of hat),?_⟩
 rw[afQ]
 by_cases c:20000<t.length
 ·rw[if_pos (by omega)]
  rw[if_pos c] at q
  exact⟨len1 _,fun p hp=>q _ G p d (But.same (bI hp)) hp aC (pg.same (bI hp)).more (fun b hb=>.inl hb) (h4.free hp) (.inl rfl) (h7.upd hp).ne⟩
 rw[if_neg (by omega)]
 rw[if_neg c] at q
 unfold Xq
 walk_at"rd"
 refine⟨a,t,rfl,au.of hat,by show t.length≤20000;omega,fun v1 H1 s1 ⟨ro,ev,aaM⟩=>?_⟩
 subst ev
 have hro:=aaM
 unfold Xp
 walk_at"rd"
 obtain⟨xs,hxs,hpx,hpl⟩:=id aaM
 have hmono:nU A.row H1 ro (rowsOf t):=⟨xs,bW _ _ _ _ hxs,Paired.dY hpx fun _ _ r=>by
  rename_i b
  cases b with
  |none=>exact r
  |some l=>
   obtain⟨a1,dx1,n1,e1,e2,e3⟩:=r
   exact⟨a1,dx1,n1,e1,bW _ _ _ _ e2,bW _ _ _ _ e3⟩,hpl⟩
 refine⟨ro,rowsOf t,rfl,⟨hmono,fun l hl=>(Xr hl).1⟩,fun v2 H2 s2 ⟨f,ev,hf⟩=>?_⟩
 subst ev
 have hf2:=bW _ _ _ _ hf
 have s12:=s1.trans s2
 unfold Xo
 walk_at"rd"
 refine⟨len2 _ _,fun p hp=>?_⟩
 obtain⟨H3,e3,s3,hp3⟩:=ab (.lst [.int 0,.int 0]) hp
 rw[e3]
 have oF:=s12.trans s3
 have Ot:=s3 _ _ hf2
 refine⟨_,_,Aa (ns:=[((eF (rowsOf t)).1:Int),((eF (rowsOf t)).2:Int)]) (au.of Ot),Aa (ns:=[0,0]) (au.of hp3),shaped_ints _,shaped_ints _,?_⟩
 rw[YL]
 simp only[V.bl.injEq,exists_eq_left']
 have he:([((eF (rowsOf t)).1:Int),((eF (rowsOf t)).2:Int)]=[0,0])↔eF (rowsOf t)=(0,0):=by
  constructor
  ·intro e
   have e1:=List.cons.inj e
   have e2:=(List.cons.inj e1.2).1
   have e1:=e1.1
   exact Prod.ext (by dsimp only;omega) (by dsimp only;omega)
  ·intro e
   rw[e]
   rfl
 by_cases c0:eF (rowsOf t)=(0,0)
 ·rw[decide_eq_true (he.mpr c0),if_pos rfl]
  rw[if_pos c0] at q
  obtain⟨pl,hall,hfi⟩:=V_.mp c0
  rw[KN (rowsOf t) 0] at hall
  cases hn:(rowsOf t).findIdx? Option.isNone with
  |some j=>rw[hn] at hall;cases hall
  |none=>
  rw[hn] at hall
  cases hall
  have hos:=all_some hn
  have abb:∀l∈(rowsOf t).filterMap id,rF l:=fun l hl=>Xr (by rw[hos];exact List.mem_map_of_mem hl)
  have hlen:((rowsOf t).filterMap id).length≤20001:=by
   have:=congrArg List.length hos
   rw[List.length_map] at this
   omega
  have rM:=ai4 abb hfi
  unfold Xn Xm
  walk_at"rd"
  refine⟨H,ro,xs,(rowsOf t).filterMap id,rfl,oF,s3 _ _ (s2 _ _ (bW _ _ _ _ hxs)),Vo (Paired.dY hpx fun _ _ r=>dO.mono (qX (s2.trans s3)) r) hos,hlen,fun l hl=>(abb l hl).1,hfi,fun v4 d4 H4 s4 Cu alo abd=>?_⟩
  have jf:=oF.trans s4
  refine⟨_,dx,_,jf _ _ h1,T.bY,T.dW,qe _ _ _,?_⟩
  rw[afL]
  refine⟨_,dx,_,aC,T.bY,T.gj,qe _ _ _,?_⟩
  rw[g8,show V.int 0=V.int ((0:Nat):Int) from rfl,zj]
  unfold qF
  walk_at"rd"
  obtain⟨as,gG,lc,lk,cs,ev,ha,hc,hk,hpk⟩:=id Cu
  subst ev
  obtain⟨had,ha⟩:=dH ha
  obtain⟨hcd,hc⟩:=dH hc
  have sJ:H d4=none:=oF.free alo
  have Ou:P≠d4:=fun e=>by rw[←e,h1] at sJ;cases sJ
  have d4d:d4≠d:=fun e=>hdn (by rw[←e];exact sJ)
  have lcP:lc≠P:=fun e=>by subst e;have:=(cu hc).1;rw[h1] at this;cases this
  have asP:as≠P:=fun e=>by subst e;have:=(cu ha).1;rw[h1] at this;cases this
  have lcd:lc≠d:=fun e=>hdn (by rw[←e];exact(cu hc).1)
  have asd:as≠d:=fun e=>hdn (by rw[←e];exact(cu ha).1)
  have b4:But P d H4 (upd H4 P (.ins A.program dx (cT (.ref as) 0 oo))):=(But.refl).upd
  refine⟨_,dx,_,aC,T.bY,T.dW,_,fB _ _ _,as,rfl,_,gG,_,b4 _ _ asP asd (bW _ _ _ _ ha),T.cW,T.iJ,_,j7 _ _ _ _ _,lc,rfl,_,.inl (au.of (b4 _ _ lcP lcd (bW _ _ _ _ hc))),(Rung.schemeOf ((rowsOf t).filterMap id)).relays.length,by simp[nV],by have:=rM.rel;omega,fun p6 mW=>?_⟩
  have CT:p6≠P:=fun e=>by subst e;rw[aC] at mW;cases mW
  rw[ahX]
  have hP5:(upd (upd H4 P (.ins A.program dx (cT (.ref as) 0 oo))) p6 (.lst (nV (List.range (Rung.schemeOf ((rowsOf t).filterMap id)).relays.length)))) P=some (.ins A.program dx (cT (.ref as) 0 oo)):=by rw[aH (Ne.symm CT),aC]
  refine⟨_,dx,_,hP5,T.bY,T.j4,qe _ _ _,?_⟩
  rw[Xl]
  have b6:But P d H4 (upd (upd (upd H4 P (.ins A.program dx (cT (.ref as) 0 oo))) p6 (.lst (nV (List.range (Rung.schemeOf ((rowsOf t).filterMap id)).relays.length)))) P (.ins A.program dx (cT (.ref as) 0 p6))):=(b4.trans (But.same (bI mW))).upd
  have abe:(upd (upd (upd H4 P (.ins A.program dx (cT (.ref as) 0 oo))) p6 (.lst (nV (List.range (Rung.schemeOf ((rowsOf t).filterMap id)).relays.length)))) P (.ins A.program dx (cT (.ref as) 0 p6))) p6=some (.lst (nV (List.range (Rung.schemeOf ((rowsOf t).filterMap id)).relays.length))):=by rw[aH CT,aC]
  have Ov:(upd (upd (upd H4 P (.ins A.program dx (cT (.ref as) 0 oo))) p6 (.lst (nV (List.range (Rung.schemeOf ((rowsOf t).filterMap id)).relays.length)))) P (.ins A.program dx (cT (.ref as) 0 p6))) P=some (.ins A.program dx (cT (.ref as) 0 p6)):=aC
  generalize hH6:(upd (upd (upd H4 P (.ins A.program dx (cT (.ref as) 0 oo))) p6 (.lst (nV (List.range (Rung.schemeOf ((rowsOf t).filterMap id)).relays.length)))) P (.ins A.program dx (cT (.ref as) 0 p6)))=H6 at b6 abe Ov⊢
  have alp:H p6=none:=jf.free (by rw[aH CT] at mW;exact mW)
  have p6d:p6≠d4:=fun e=>by
   rw[aH CT,e,abd] at mW
   cases mW
  have fd:f≠d:=fun e=>by have h':=(cu hf).1;rw[e] at h';exact hdn (s1.free h')
  have fP:f≠P:=fun e=>by subst e;have:=s1 _ _ h1;have h':=(cu hf).1;rw[this] at h';cases h'
  unfold J9
  walk_at"rd"
  refine⟨len1 _,fun p7 hp7=>?_⟩
  obtain⟨H7,e7,s7,alq⟩:=ab (.lst [.int 0]) hp7
  rw[e7]
  refine⟨_,alq,_,s7 _ _ (b6 _ _ fP fd (s4 _ _ Ot)),by simp[sizeLine_eq],fun p8 hp8=>?_⟩
  have bb:But P d H H7:=((But.same jf).trans b6).trans (But.same s7)
  have alr:p8≠P:=fun e=>by subst e;rw[s7 _ _ Ov] at hp8;cases hp8
  have hd7:H7 d≠none:=by
   obtain⟨kk,hk1,_⟩:=h7
   have e6:H6 d=some (.dK kk):=by
    rw[←hH6,aH (Ne.symm dU),aH (fun e=>by rw[←e,aH (Ne.symm dU),jf _ _ hk1] at mW;cases mW),aH (Ne.symm dU)]
    exact jf _ _ hk1
   rw[s7 _ _ e6]
   simp
  have abf:H p8=none:=by
   cases hx:H p8 with
   |none=>rfl
   |some u=>rw[bb _ _ alr (fun e=>hd7 (by rw[←e];exact hp8)) hx] at hp8;cases hp8
  have s8:Same H7 (upd H7 p8 (.lst ([.int 0]++[.int ((eF (rowsOf t)).1:Int),.int ((eF (rowsOf t)).2:Int)]))):=bI hp8
  have hz:nw H H7 P=none:=by
   cases hx:nw H H7 P with
   |none=>rfl
   |some u=>have h':=(cu hx).1;rw[h1] at h';cases h'
  have als:H7 d4=some (.dK []):=s7 _ _ (b6 _ _ (Ne.symm Ou) d4d abd)
  refine q _ (hide d4 (nw H H7)) p8 d4 (bb.trans (But.same s8)) abf ?_ ⟨⟨dx,.ref as,p6,s8 _ _ (s7 _ _ Ov),Cu.mono (zp (akd (b6.trans (But.same s7)) h1 hdn)),cZ p6d (bO alp (s7 _ _ abe))⟩,((nG _ _).trans (bW _ _)).trans s8,?_,Av,Ou,⟨rM,List.length_range,fun j hj=>List.mem_range.mp hj,List.nodup_range,fun v hv=>by simp at hv⟩,⟨[],s8 _ _ als,Nat.zero_le _,fun x v hx=>by cases hx⟩⟩ (fun b hb=>.inr (hB b ?_)) ?_ (.inr (hB _ sJ)) (fun z=>hd7 (s8.free z))
  ·rw[aC,c0]
   rfl
  ·rw[hide_ne Ou]
   exact hz
  ·cases hx:hide d4 (nw H H7) b with
   |none=>exact absurd hx hb
   |some u=>exact(cu (dH hx).2).1
  ·by_cases e:p8=d4
   ·rw[e,Av]
   ·rw[hide_ne e,aay abf]
    exact hp8
 ·rw[decide_eq_false (fun z=>c0 (he.mp z)),if_neg (by simp)]
  rw[if_neg c0] at q
  unfold J9
  walk_at"rd"
  refine⟨len1 _,fun p2 hp2=>?_⟩
  obtain⟨H4,e4,s4,hp4⟩:=ab (.lst [.int 0]) hp2
  rw[e4]
  refine⟨_,hp4,_,s4 _ _ Ot,by simp[sizeLine_eq],fun p5 Ow=>?_⟩
  have jf:=oF.trans s4
  have Oa:=jf.free Ow
  have oG:=cC (o:=.lst ([.int 0]++[.int ((eF (rowsOf t)).1:Int),.int ((eF (rowsOf t)).2:Int)])) jf Oa
  exact q _ G p5 d (But.same oG) Oa aC (pg.same oG).more (fun b hb=>.inl hb) (h4.free Oa) (.inl rfl) (h7.same oG).ne
end
theorem ahZ(xs:List V)(a b:Nat)(h:a≤b)(hb:b≤xs.length):iD xs (some (a:Int)) (some (b:Int))=(xs.drop a).take (b - a):=by
 unfold iD
 rw[HT.zO,HT.zO,Nat.min_eq_left hb,Nat.min_eq_left (Nat.le_trans h hb)]
theorem fs2(a:Addr)(n:Nat):(cX a n).length<1000:=by show 2<1000;decide
section
variable{K:PySem.W.Frag}{mg:Str→Option Value}{A:Ad}
theorem acH(T:Tx K mg A)(vs:List V)(H:Hp)(Q:VK)(E:XK)(h:Fe K A vs H Q E):wM K A {nx:=fun _ H'=>Q .non H',rt:=Q} (L2.start ["self"] vs) H:=by
 obtain⟨R,a,dx,ns,k,rfl,⟨h1,h2⟩,q⟩:=h
 show wM K A _ [some (.ref R)] H
 unfold wM
 walk_at"rd"
 refine⟨_,dx,_,h1,T.gk,T.lA,_,qL _ _,_,dx,_,h1,T.gk,T.qw,_,J7 _ _,a,rfl,_,.inl h2,_,rfl,?_⟩
 rw[List.length_map]
 have e:decide ((ns.length:Int)≤(k:Int))=decide (ns.length≤k):=by rw[decide_eq_decide];omega
 rw[e]
 exact q
theorem ZK{K:PySem.W.Frag}{H:Hp}{a b C dx:Addr}{fs:List (Str×V)}{xs:List V}{o:HO}(hb:H b=some (.ins C dx fs))(h:au K H a xs):au K (upd H b o) a xs:=by
 rcases h with(z|⟨u,z⟩)|z
 ·exact .inl (.inl (by rw[aH (fun e=>by subst e;rw[hb] at z;cases z)];exact z))
 ·exact .inl (.inr ⟨u,by rw[aH (fun e=>by subst e;rw[hb] at z;cases z)];exact z⟩)
 ·exact .inr z
theorem abM(T:Tx K mg A)(vs:List V)(H:Hp)(Q:VK)(E:XK)(h:qm K A vs H Q E):wg K A {nx:=fun _ H'=>Q .non H',rt:=Q} (L2.start ["self","number"] vs) H:=by
 obtain⟨R,a,dx,ns,k,n,rfl,⟨h1,h2⟩,hn,q⟩:=h
 show wg K A _ [some (.ref R),none] H
 unfold wg Pk Pj
 walk_at"rd"
 refine⟨_,dx,_,h1,T.gk,T.qw,_,J7 _ _,_,dx,_,h1,T.gk,T.lA,_,qL _ _,a,rfl,_,(k:Int),rfl,h2,.int n,?_,_,dx,_,h1,T.gk,T.lA,_,qL _ _,_,rfl,dx,_,h1,fs2 _ _,?_⟩
 ·exact j9 (by rw[List.getElem?_map,hn];rfl)
 ·exact q
theorem abY(T:Tx K mg A)(vs:List V)(H:Hp)(Q:VK)(E:XK)(h:wC K A vs H Q E):wD K A {nx:=fun _ H'=>Q .non H',rt:=Q} (L2.start ["self","length","start"] vs) H:=by
 obtain⟨R,a,dx,ns,k,m,rfl,⟨h1,h2⟩,hn,hm,q⟩:=h
 show wD K A _ [some (.ref R),none,none] H
 unfold wD PX PN PL
 walk_at"rd"
 refine⟨⟨dx,_,h1,rfl⟩,R,a,dx,ns,k,(m:Int),rfl,⟨h1,h2⟩,hn,?_⟩
 have hR:(upd H R (.ins A.reader dx (cX a (k+1)))) R=some (.ins A.reader dx (cX a (k+1))):=aC
 refine⟨_,dx,_,hR,T.gk,T.lA,_,qL _ _,_,dx,_,hR,T.gk,T.lA,_,qL _ _,_,rfl,_,rfl,dx,_,hR,fs2 _ _,?_⟩
 rw[show((k+1:Nat):Int)+(m:Int)=((k+1+m:Nat):Int) by omega,agW,g8]
 have jg:(upd H R (.ins A.reader dx (cX a (k+1+m)))) R=some (.ins A.reader dx (cX a (k+1+m))):=aC
 refine⟨_,dx,_,jg,T.gk,T.qw,_,J7 _ _,_,rfl,_,dx,_,jg,T.gk,T.lA,_,qL _ _,_,rfl,a,rfl,_,ZK h1 h2,fun p hp=>?_⟩
 rw[ahZ _ _ _ (by omega) (by rw[List.length_map];exact hm),show k+1+m - (k+1)=m by omega,←List.map_drop,←List.map_take]
 have hpR:p≠R:=fun e=>by subst e;rw[jg] at hp;cases hp
 rw[aH hpR] at hp
 exact q p hp
end
def xK:Sp:=fun vs H Q _=>∃n:Nat,vs=[.int (n:Int)]∧n≤1000∧Q (.int ((2^n - 1:Nat):Int)) H
def ZL(A:Ad):=Ba A.scan ["states","back"]
def xM(K:PySem.W.Frag)(A:Ad):TS:=(aL (aG (bx fun i j=>.int (i - j)) (aG (rI rZ fun i j=>.int (i*2^j.toNat)) (tC (V.int 1)) (aj 0)) (tC (V.int 1))))
def Tt(K:PySem.W.Frag)(A:Ad):TS:=(dg K (aj 0) (aj 4) "opener")
def Tv(K:PySem.W.Frag)(A:Ad):TS:=(aB (dg K (aj 0) (aj 3) "nodes") (Tt K A))
def Tw(K:PySem.W.Frag)(A:Ad):TS:=(aB (dg K (aj 0) (aj 2) "name") (Tv K A))
def yI(K:PySem.W.Frag)(A:Ad):TS:=(aB (dg K (aj 0) (aj 1) "rank") (Tw K A))
def QJ(K:PySem.W.Frag)(A:Ad):TS:=(dg K (aj 0) (aj 3) "nodes")
def QK(K:PySem.W.Frag)(A:Ad):TS:=(aB (dg K (aj 0) (aj 2) "opener") (QJ K A))
def xr(K:PySem.W.Frag)(A:Ad):TS:=(aB (dg K (aj 0) (aj 1) "variable") (QK K A))
def Q5(K:PySem.W.Frag)(A:Ad):TS:=(dg K (aj 0) kj "drawing")
def Q6(K:PySem.W.Frag)(A:Ad):TS:=(aB (dg K (aj 0) (aG (bx fun i j=>.int (Builtin.bitOr i j)) (aU xK (ak (aj 1) aq)) (aP K (aj 0) "relay_mask")) "mask") (Q5 K A))
def Q7(K:PySem.W.Frag)(A:Ad):TS:=(aB (dg K (aj 0) (aG (rI rZ fun i j=>.int (i*2^j.toNat)) (aU xK (ak (bU (fun xs H Q=>∃p ys,xs=[.ref p]∧(au K H p ys∨bK K H p ys)∧Q (.int ys.length) H) (ak (aj 2) aq)) aq)) (tC (V.int 16))) "relay_mask") (Q6 K A))
def Q8(K:PySem.W.Frag)(A:Ad):TS:=(aB (dg K (aj 0) (aj 3) "contacts") (Q7 K A))
def Q9(K:PySem.W.Frag)(A:Ad):TS:=(aB (dg K (aj 0) (aj 2) "coils") (Q8 K A))
def xO(K:PySem.W.Frag)(A:Ad):TS:=(aB (dg K (aj 0) (aj 1) "inputs") (Q9 K A))
def S_(K:PySem.W.Frag)(A:Ad):TS:=(dg K (aj 0) (aj 2) "back")
def yE(K:PySem.W.Frag)(A:Ad):TS:=(aB (dg K (aj 0) (aj 1) "states") (S_ K A))
def QL(K:PySem.W.Frag)(A:Ad):TS:=(dg K (aj 0) (bQ aq) "order")
def QM(K:PySem.W.Frag)(A:Ad):TS:=(aB (dg K (aj 0) (tC (V.int 0)) "state") (QL K A))
def xu(K:PySem.W.Frag)(A:Ad):TS:=(aB (dg K (aj 0) (aU (yw K A) (ak (bQ aq) aq)) "scheme") (QM K A))
def Q_(K:PySem.W.Frag)(A:Ad):TS:=(dg K (aj 0) (tC (V.int 0)) "place")
def xP(K:PySem.W.Frag)(A:Ad):TS:=(aB (dg K (aj 0) (aj 1) "calls") (Q_ K A))
theorem o_{f:Str}{v:V}:∀{fs:List (Str×V)} {n:Nat},fs.length<n→(cH f v fs).length<n+1
 | [],n,_=>by show 1<n+1;omega
 |(g,u)::r,n,h=>by
  unfold cH
  split
  ·rw[List.length_cons] at h⊢
   omega
  ·rw[List.length_cons] at h⊢
   have:=o_ (f:=f) (v:=v) (fs:=r) (n:=n - 1) (by omega)
   omega
theorem Ox:([]:List (Str×V)).length<990:=by decide
local macro_rules| `(tactic|decide)=> `(tactic|first|exact Nat.lt_of_lt_of_le (o_ Ox) (Nat.le_of_ble_eq_true rfl)|exact Nat.lt_of_lt_of_le (o_ (o_ Ox)) (Nat.le_of_ble_eq_true rfl)|exact Nat.lt_of_lt_of_le (o_ (o_ (o_ Ox))) (Nat.le_of_ble_eq_true rfl))
def uR(C:Addr)(names:List Str):Sp:=fun vs H Q _=>∃(x dx:Addr) (us:List V),vs= .ref x::us∧us.length=names.length∧H x=some (.ins C dx [])∧Q .non (upd H x (.ins C dx (names.zip us)))
def ai_(A:Ad):Sp:=uR A.row ["rank","name","nodes","opener"]
def aeS(A:Ad):Sp:=uR A.contact ["variable","opener","nodes"]
def ah0(A:Ad):Sp:=uR A.scan ["states","back"]
def Wb(A:Ad):Sp:=fun vs H Q _=>∃(x dx:Addr) (ni:Nat) (lc lk:Addr) (cs:List V),vs=[.ref x,.int (ni:Int),.ref lc,.ref lk]∧ni≤16∧H lc=some (.lst cs)∧cs.length≤12∧H x=some (.ins A.scheme dx [])∧
 ∀d H',H d=none→(∀b o,b≠x→H b=some o→H' b=some o)→H' x=some (.ins A.scheme dx (lJ ni cs.length lc lk d))→H' d=some (.dK [])→Q .non H'
def Wc(A:Ad):Sp:=fun vs H Q _=>∃(x dx a:Addr),vs=[.ref x,.ref a]∧H x=some (.ins A.reader dx [])∧Q .non (upd H x (.ins A.reader dx (cX a 0)))
def Vp(A:Ad):Sp:=fun vs H Q _=>∃(x dx:Addr),vs=[.ref x]∧H x=some (.ins A.program dx [])∧∀H' G d,(∀b o,b≠x→H b=some o→H' b=some o)→PG A G H' x RungScanSeed.start d 0→(∀b,G b≠none→H b=none)→H d=none→Q .non H'
theorem K5{C:Addr}{names:List Str}:∀vs H Q,Ba C names vs H Q→∀x dx,H x=none→H dx=none→dx≠x→uR C names (.ref x::vs) (upd (upd H dx (.own x)) x (.ins C dx [])) (fun v H2=>v= .non∧Q (.ref x) H2) E0:=by
 intro vs H Q ⟨hl,q⟩ x dx h1 h2 h3
 refine⟨x,dx,vs,rfl,hl,aC,rfl,?_⟩
 rw[g8]
 exact q x dx h1 h2 h3
theorem K6{C:Addr}{names:List Str}{vs:List V}{H:Hp}{Q:VK}{E:XK}(h:uR C names vs H Q E):vs.length=names.length+1:=by
 obtain⟨x,dx,us,rfl,hl,_⟩:=h
 rw[List.length_cons,hl]
theorem afR{A:Ad}:∀vs H Q,J8 A vs H Q→∀x dx,H x=none→H dx=none→dx≠x→Wc A (.ref x::vs) (upd (upd H dx (.own x)) x (.ins A.reader dx [])) (fun v H2=>v= .non∧Q (.ref x) H2) E0:=by
 rintro vs H Q ⟨a,rfl,q⟩ x dx h1 h2 h3
 refine⟨x,dx,a,rfl,aC,rfl,?_⟩
 rw[g8]
 exact q x dx h1 h2 h3
theorem K7{H:Hp}{x dx c:Addr}{o o':HO}(h1:H x=none)(h2:H dx=none)(h:(upd (upd H dx o) x o') c=none):H c=none:=by
 cases e:H c with
 |none=>rfl
 |some u=>
  have c1:c≠x:=fun z=>by subst z;rw[h1] at e;cases e
  have c2:c≠dx:=fun z=>by subst z;rw[h2] at e;cases e
  rw[aH c1,aH c2,e] at h
  cases h
theorem YQ{H H':Hp}{x dx:Addr}{o o':HO}(h1:H x=none)(h2:H dx=none)(b:∀c u,c≠x→(upd (upd H dx o) x o') c=some u→H' c=some u):Same H H':=fun c u e=>by
 have c1:c≠x:=fun z=>by subst z;rw[h1] at e;cases e
 have c2:c≠dx:=fun z=>by subst z;rw[h2] at e;cases e
 exact b c u c1 (by rw[aH c1,aH c2];exact e)
theorem aeT{A:Ad}:∀vs H Q,Ju A vs H Q→∀x dx,H x=none→H dx=none→dx≠x→Vp A (.ref x::vs) (upd (upd H dx (.own x)) x (.ins A.program dx [])) (fun v H2=>v= .non∧Q (.ref x) H2) E0:=by
 rintro vs H Q ⟨rfl,q⟩ x dx h1 h2 h3
 exact⟨x,dx,rfl,aC,fun H' G d b pg hG hd=>⟨rfl,q x H' G d h1 (YQ h1 h2 b) pg (fun c hc=>K7 h1 h2 (hG c hc)) (K7 h1 h2 hd)⟩⟩
theorem afS{A:Ad}:∀vs H Q,J4 A vs H Q→∀x dx,H x=none→H dx=none→dx≠x→Wb A (.ref x::vs) (upd (upd H dx (.own x)) x (.ins A.scheme dx [])) (fun v H2=>v= .non∧Q (.ref x) H2) E0:=by
 rintro vs H Q ⟨ni,lc,lk,cs,rfl,hni,lq,hcs,q⟩ x dx h1 h2 h3
 have c1:lc≠x:=bM lq h1
 have c2:lc≠dx:=bM lq h2
 refine⟨x,dx,ni,lc,lk,cs,rfl,hni,by rw[aH c1,aH c2];exact lq,hcs,aC,fun d H' hd b hx hd'=>⟨rfl,q x dx d H' (YQ h1 h2 b) h1 (K7 h1 h2 hd) hx hd' fun e=>?_⟩⟩
 rw[←e,aC] at hd
 cases hd
theorem Ce.cf{P:Program}{w:World}{K:PySem.W.Frag}{mg:Str→Option Value}{base:Heap}{k:Nat}{x:Str}{ps:List Str}{sp:Sp}{f:Addr}(C:Ce P w K mg base k x ps sp)(hm:mg x=some (.ref f)):Cf P w K mg base k f sp:=by
 obtain⟨f',fd,F,hm',kp,b⟩:=C
 rw[hm] at hm'
 cases hm'
 exact⟨fd,ps,F,kp,b⟩
section
variable{K:PySem.W.Frag}{mg:Str→Option Value}{A:Ad}
theorem afT(T:Tx K mg A)(vs:List V)(H:Hp)(Q:VK)(E:XK)(h:ai_ A vs H Q E):yI K A {nx:=fun _ H'=>Q .non H',rt:=Q} (L2.start ["self","rank","name","nodes","opener"] vs) H:=by
 obtain⟨x,dx,us,rfl,hl,hx,q⟩:=h
 match us,hl with
 | [u1,u2,u3,u4],_=>
 show yI K A _ [some (.ref x),some u1,some u2,some u3,some u4] H
 unfold yI Tw Tv Tt
 walk_at"rd"
 refine⟨_,dx,_,hx,T.eU,T.gZ,by decide,_,dx,_,aC,T.eU,T.jH,by decide,_,dx,_,aC,T.eU,T.tR,by decide,_,dx,_,aC,T.eU,T.yt,by decide,?_⟩
 simp only[g8]
 exact q
theorem ac5(T:Tx K mg A)(vs:List V)(H:Hp)(Q:VK)(E:XK)(h:aeS A vs H Q E):xr K A {nx:=fun _ H'=>Q .non H',rt:=Q} (L2.start ["self","variable","opener","nodes"] vs) H:=by
 obtain⟨x,dx,us,rfl,hl,hx,q⟩:=h
 match us,hl with
 | [u1,u2,u3],_=>
 show xr K A _ [some (.ref x),some u1,some u2,some u3] H
 unfold xr QK QJ
 walk_at"rd"
 refine⟨_,dx,_,hx,T.m9,T.tE,by decide,_,dx,_,aC,T.m9,T.wJ,by decide,_,dx,_,aC,T.m9,T.wX,by decide,?_⟩
 simp only[g8]
 exact q
theorem adx(T:Tx K mg A)(vs:List V)(H:Hp)(Q:VK)(E:XK)(h:xK vs H Q E):xM K A {nx:=fun _ H'=>Q .non H',rt:=Q} (L2.start ["many"] vs) H:=by
 obtain⟨n,rfl,hn,q⟩:=h
 show xM K A _ [some (.int n)] H
 unfold xM
 walk_at"rd"
 refine⟨⟨by omega,by omega,by decide⟩,?_⟩
 have e:(1:Int)*2^(n:Int).toNat - 1=((2^n - 1:Nat):Int):=by
  rw[Int.toNat_natCast,Int.one_mul,two_pow_cast]
  have:=Nat.two_pow_pos n
  omega
 rw[e]
 exact q
theorem aeU(T:Tx K mg A)(vs:List V)(H:Hp)(Q:VK)(E:XK)(h:ah0 A vs H Q E):yE K A {nx:=fun _ H'=>Q .non H',rt:=Q} (L2.start ["self","states","back"] vs) H:=by
 obtain⟨x,dx,us,rfl,hl,hx,q⟩:=h
 match us,hl with
 | [u1,u2],_=>
 show yE K A _ [some (.ref x),some u1,some u2] H
 unfold yE S_
 walk_at"rd"
 refine⟨_,dx,_,hx,T.iR,T.m7,by decide,_,dx,_,aC,T.iR,T.qC,by decide,?_⟩
 simp only[g8]
 exact q
theorem ady(T:Tx K mg A)(vs:List V)(H:Hp)(Q:VK)(E:XK)(h:Wb A vs H Q E):xO K A {nx:=fun _ H'=>Q .non H',rt:=Q} (L2.start ["self","inputs","coils","contacts"] vs) H:=by
 obtain⟨x,dx,ni,lc,lk,cs,rfl,hni,lq,hcs,hx,q⟩:=h
 show xO K A _ [some (.ref x),some (.int ni),some (.ref lc),some (.ref lk)] H
 have hcx:lc≠x:=fun e=>by rw[e,hx] at lq;cases lq
 unfold xO Q9 Q8 Q7 Q6 Q5
 walk_at"rd"
 refine⟨_,dx,_,hx,T.cW,T.wY,by decide,_,dx,_,aC,T.cW,T.iJ,by decide,_,dx,_,aC,T.cW,T.tG,by decide,?_⟩
 simp only[g8]
 refine⟨_,.inl (au.of (by rw[aH hcx];exact lq)),cs.length,rfl,by omega,?_⟩
 have h12:(2:Nat)^cs.length≤2^12:=Nat.pow_le_pow_right (by decide) hcs
 have hpos:=Nat.two_pow_pos cs.length
 refine⟨_,rfl,⟨by omega,by omega,by omega⟩,_,dx,_,aC,T.cW,T.tu,by show 3<1000;decide,ni,rfl,by omega,_,dx,_,aC,T.cW,T.tu,_,rfl,_,rfl,_,rfl,_,dx,_,aC,T.cW,T.qy,by show 4<1000;decide,fun p hp=>?_⟩
 simp only[g8] at hp⊢
 have hpx:p≠x:=fun e=>by rw[e,aC] at hp;cases hp
 refine⟨_,dx,_,by rw[aH (Ne.symm hpx)];exact aC,T.cW,T.qu,by show 5<1000;decide,?_⟩
 have hp0:H p=none:=by rw[aH hpx] at hp;exact hp
 refine q p _ hp0 (fun b o hb e=>?_) ?_ ?_
 ·rw[aH hb,aH (bM e hp0),aH hb]
  exact e
 ·rw[aC]
  have e1:((2^cs.length - 1:Nat):Int)*2^(16:Int).toNat=((n_ cs.length:Nat):Int):=by
   unfold n_
   rw[Int.natCast_mul,←two_pow_cast]
   rfl
  rw[e1,Bf]
  rfl
 ·rw[aH hpx,aC]
theorem adz(T:Tx K mg A)(vs:List V)(H:Hp)(Q:VK)(E:XK)(h:Wc A vs H Q E):xP K A {nx:=fun _ H'=>Q .non H',rt:=Q} (L2.start ["self","calls"] vs) H:=by
 obtain⟨x,dx,a,rfl,hx,q⟩:=h
 show xP K A _ [some (.ref x),some (.ref a)] H
 unfold xP Q_
 walk_at"rd"
 refine⟨_,dx,_,hx,T.gk,T.qw,by decide,_,dx,_,aC,T.gk,T.lA,by decide,?_⟩
 simp only[g8]
 exact q
theorem ac6(T:Tx K mg A)(vs:List V)(H:Hp)(Q:VK)(E:XK)(h:Vp A vs H Q E):xu K A {nx:=fun _ H'=>Q .non H',rt:=Q} (L2.start ["self"] vs) H:=by
 obtain⟨x,dx,rfl,hx,q⟩:=h
 show xu K A _ [some (.ref x)] H
 unfold xu QM QL
 walk_at"rd"
 refine⟨Nat.zero_le _,fun p hp=>?_⟩
 obtain⟨H1,e1,s1,hp1⟩:=ab (.lst []) hp
 rw[e1]
 refine⟨H,p,[],[],rfl,s1,hp1,.nil,by decide,fun l hl=>by simp at hl,rfl,fun v d H2 s2 hs hd1 hd2=>?_⟩
 have s12:=s1.trans s2
 have hd0:H d=none:=s1.free hd1
 have mO:x≠d:=bM hx hd0
 refine⟨_,dx,_,s12 _ _ hx,T.bY,T.dW,by decide,_,dx,_,aC,T.bY,T.gj,by decide,Nat.zero_le _,fun p3 hp3=>?_⟩
 rw[g8] at hp3⊢
 have CV:p3≠x:=fun e=>by subst e;rw[aC] at hp3;cases hp3
 have p3d:p3≠d:=fun e=>by rw[aH CV,e,hd2] at hp3;cases hp3
 refine⟨_,dx,_,by rw[aH (Ne.symm CV)];exact aC,T.bY,T.j4,by decide,?_⟩
 have b3:∀b o,b≠x→H2 b=some o→(upd (upd (upd H2 x (.ins A.program dx (cH "state" (.int 0) (cH "scheme" v [])))) p3 (.lst [])) x (.ins A.program dx (cT v 0 p3))) b=some o:=fun b o hb e=>by
  rw[aH hb,aH (bM (H:=upd H2 x (.ins A.program dx (cH "state" (.int 0) (cH "scheme" v [])))) (by rw[aH hb];exact e) hp3),aH hb]
  exact e
 have abg:(upd (upd (upd H2 x (.ins A.program dx (cH "state" (.int 0) (cH "scheme" v [])))) p3 (.lst [])) x (.ins A.program dx (cT v 0 p3))) p3=some (.lst []):=by rw[aH CV,aC]
 have hx3:(upd (upd (upd H2 x (.ins A.program dx (cH "state" (.int 0) (cH "scheme" v [])))) p3 (.lst [])) x (.ins A.program dx (cT v 0 p3))) x=some (.ins A.program dx (cT v 0 p3)):=aC
 show Q .non (upd (upd (upd H2 x (.ins A.program dx (cH "state" (.int 0) (cH "scheme" v [])))) p3 (.lst [])) x (.ins A.program dx (cT v 0 p3)))
 generalize (upd (upd (upd H2 x (.ins A.program dx (cH "state" (.int 0) (cH "scheme" v [])))) p3 (.lst [])) x (.ins A.program dx (cT v 0 p3)))=H3 at b3 abg hx3⊢
 have alu:H p3=none:=s12.free (by rw[aH CV] at hp3;exact hp3)
 have nwb:Same (nw H H2) (nw H H3):=fun b u e=>by
  obtain⟨e1,e2⟩:=cu e
  exact bO e1 (b3 b u (fun z=>by rw[z,hx] at e1;cases e1) e2)
 refine q H3 (hide d (nw H H3)) d (fun b o hb e=>b3 b o hb (s12 _ _ e)) ⟨⟨dx,v,p3,hx3,hs.mono (zp nwb),cZ p3d (bO alu abg)⟩,(nG _ _).trans (bW _ _),?_,Av,mO,ahW,⟨[],b3 _ _ (Ne.symm mO) hd2,Nat.zero_le _,fun x v hx=>by cases hx⟩⟩ (fun b hb=>?_) hd0
 ·rw[hide_ne mO]
  cases e:nw H H3 x with
  |none=>rfl
  |some u=>have h':=(cu e).1;rw[hx] at h';cases h'
 ·cases e:hide d (nw H H3) b with
  |none=>exact absurd e hb
  |some u=>exact(cu (dH e).2).1
end
inductive CallAt(ns:List Int)(k:Nat):RungScanSeed.Call→Nat→Prop
 |load (m:Nat):ns[k]? =some 1→ns[k+1]? =some (m:Int)→k+1+1+m≤ns.length→(((ns.drop (k+1+1)).take m).all fun(z:Int)=>decide (0≤z)&&decide (z≤255))=true→CallAt ns k (.load (ScanNeutral.bytesOf ((ns.drop (k+1+1)).take m))) (k+1+1+m)
 |set (x:Int):ns[k]? =some 2→ns[k+1]? =some x→CallAt ns k (.set x) (k+1+1)
 |arrange (m:Nat):ns[k]? =some 3→ns[k+1]? =some (m:Int)→k+1+1+m≤ns.length→CallAt ns k (.arrange ((ns.drop (k+1+1)).take m)) (k+1+1+m)
 |told:ns[k]? =some 4→CallAt ns k .told (k+1)
 |pass:ns[k]? =some 5→CallAt ns k .pass (k+1)
 |rungs:ns[k]? =some 6→CallAt ns k .rungs (k+1)
 |until_:ns[k]? =some 7→CallAt ns k .until_ (k+1)
 |round:ns[k]? =some 8→CallAt ns k .round (k+1)
 |hang (j:Int):ns[k]? =some 9→ns[k+1]? =some j→CallAt ns k (.hang j) (k+1+1)
 |order:ns[k]? =some 10→CallAt ns k .order (k+1)
 |sure:ns[k]? =some 11→CallAt ns k .sure (k+1)
 |some_:ns[k]? =some 12→CallAt ns k .some_ (k+1)
theorem drop_cons{ns r:List Int}{p:Int}{k:Nat}(h:ns.drop k=p::r):ns[k]? =some p∧r=ns.drop (k+1)∧k<ns.length:=by
 have hk:k<ns.length:=by
  rcases Nat.lt_or_ge k ns.length with z|z
  ·exact z
  ·rw[List.drop_eq_nil_of_le z] at h
   cases h
 rw[List.drop_eq_getElem_cons hk] at h
 obtain⟨h1,h2⟩:=List.cons.inj h
 exact⟨by rw[List.getElem?_eq_getElem hk,h1],h2.symm,hk⟩
section
variable{p:Int}{r t:List Int}{c0:List (List Int)}
theorem ah1(hs:PyWqlgse.shape p=some (0,1))(h:PyFlat.call PyWqlgse.shape (p::r)=some (c0,t)):∃(m:Nat) (r':List Int),r=(m:Int)::r'∧m≤r'.length∧c0=[[p],r'.take m]∧t=r'.drop m:=by
 unfold PyFlat.call at h
 dsimp only at h
 rw[hs] at h
 dsimp only at h
 rw[if_neg (by omega),List.drop_zero] at h
 cases r with
 |nil=>cases h
 |cons m r'=>
  unfold PyFlat.rows PyFlat.row at h
  dsimp only at h
  by_cases c:0≤m∧m.toNat≤r'.length
  ·rw[if_pos c] at h
   dsimp only[PyFlat.rows] at h
   cases h
   refine⟨m.toNat,r',?_,c.2,rfl,rfl⟩
   rw[show(m.toNat:Int)=m by omega]
  ·rw[if_neg c] at h
   cases h
theorem call_num(hs:PyWqlgse.shape p=some (1,0))(h:PyFlat.call PyWqlgse.shape (p::r)=some (c0,t)):∃(x:Int),r=x::t∧c0=[[p,x]]:=by
 unfold PyFlat.call at h
 dsimp only at h
 rw[hs] at h
 dsimp only at h
 cases r with
 |nil=>rw[if_pos (by simp)] at h;cases h
 |cons x r'=>
  rw[if_neg (by simp)] at h
  dsimp only[PyFlat.rows] at h
  cases h
  exact⟨x,rfl,rfl⟩
theorem ah2(hs:PyWqlgse.shape p=some (0,0))(h:PyFlat.call PyWqlgse.shape (p::r)=some (c0,t)):c0=[[p]]∧t=r:=by
 unfold PyFlat.call at h
 dsimp only at h
 rw[hs] at h
 dsimp only at h
 rw[if_neg (by omega)] at h
 dsimp only[PyFlat.rows] at h
 cases h
 exact⟨rfl,rfl⟩
end
theorem ah3{p:Int}{u:Nat×Nat}(h:PyWqlgse.shape p=some u):p=1∨p=2∨p=3∨p=4∨p=5∨p=6∨p=7∨p=8∨p=9∨p=10∨p=11∨p=12:=by
 by_cases c:p=1∨p=2∨p=3∨p=4∨p=5∨p=6∨p=7∨p=8∨p=9∨p=10∨p=11∨p=12
 ·exact c
 ·simp only[not_or] at c
  obtain⟨c1,c2,c3,c4,c5,c6,c7,c8,c9,c10,c11,c12⟩:=c
  unfold PyWqlgse.shape at h
  rw[if_neg c1,if_neg c2,if_neg c3,if_neg c4,if_neg c5,if_neg c6,if_neg c7,if_neg c8,if_neg c9,if_neg c10,if_neg c11,if_neg c12] at h
  cases h
theorem aja{ns:List Int}{k:Nat}{p:Int}{r t:List Int}{c0:List (List Int)}(hd:ns.drop k=p::r)(h:PyFlat.call PyWqlgse.shape (p::r)=some (c0,t)):
 ∃k',k<k'∧k'≤ns.length∧t=ns.drop k'∧(ScanNeutral.asked1 (PyWqlgse.whole c0)=true→∃c,ScanNeutral.callOf (PyWqlgse.whole c0)=some c∧CallAt ns k c k'):=by
 obtain⟨h1,h2,h3⟩:=drop_cons hd
 have hsh:∃u,PyWqlgse.shape p=some u:=by
  cases e:PyWqlgse.shape p with
  |some u=>exact⟨u,rfl⟩
  |none=>
   unfold PyFlat.call at h
   dsimp only at h
   rw[e] at h
   cases h
 obtain⟨u,hu⟩:=hsh
 have row:∀(hs:PyWqlgse.shape p=some (0,1)),∃m:Nat,ns[k+1]? =some (m:Int)∧k+1+1+m≤ns.length∧c0=[[p],(ns.drop (k+1+1)).take m]∧t=ns.drop (k+1+1+m):=fun hs=>by
  obtain⟨m,r',e1,e2,e3,e4⟩:=ah1 hs h
  obtain⟨h4,h5,h6⟩:=drop_cons (h2.symm.trans e1)
  rw[h5] at e2 e3 e4
  rw[List.length_drop] at e2
  exact⟨m,h4,by omega,e3,by rw[e4,List.drop_drop]⟩
 have num:∀(hs:PyWqlgse.shape p=some (1,0)),∃x:Int,ns[k+1]? =some x∧k+1+1≤ns.length∧c0=[[p,x]]∧t=ns.drop (k+1+1):=fun hs=>by
  obtain⟨x,e1,e2⟩:=call_num hs h
  obtain⟨h4,h5,h6⟩:=drop_cons (h2.symm.trans e1)
  exact⟨x,h4,by omega,e2,h5⟩
 have non:∀(hs:PyWqlgse.shape p=some (0,0)),c0=[[p]]∧t=ns.drop (k+1):=fun hs=>by
  obtain⟨e1,e2⟩:=ah2 hs h
  exact⟨e1,e2.trans h2⟩
 rcases ah3 hu with e|e|e|e|e|e|e|e|e|e|e|e<;>subst e
 ·obtain⟨m,a1,a2,a3,a4⟩:=row rfl
  subst a3
  exact⟨_,by omega,a2,a4,fun q=>⟨_,rfl,.load m h1 a1 a2 q⟩⟩
 ·obtain⟨x,a1,a2,a3,a4⟩:=num rfl
  subst a3
  exact⟨_,by omega,a2,a4,fun q=>⟨_,rfl,.set x h1 a1⟩⟩
 ·obtain⟨m,a1,a2,a3,a4⟩:=row rfl
  subst a3
  exact⟨_,by omega,a2,a4,fun q=>⟨_,rfl,.arrange m h1 a1 a2⟩⟩
 ·obtain⟨a3,a4⟩:=non rfl
  subst a3
  exact⟨_,by omega,h3,a4,fun q=>⟨_,rfl,.told h1⟩⟩
 ·obtain⟨a3,a4⟩:=non rfl
  subst a3
  exact⟨_,by omega,h3,a4,fun q=>⟨_,rfl,.pass h1⟩⟩
 ·obtain⟨a3,a4⟩:=non rfl
  subst a3
  exact⟨_,by omega,h3,a4,fun q=>⟨_,rfl,.rungs h1⟩⟩
 ·obtain⟨a3,a4⟩:=non rfl
  subst a3
  exact⟨_,by omega,h3,a4,fun q=>⟨_,rfl,.until_ h1⟩⟩
 ·obtain⟨a3,a4⟩:=non rfl
  subst a3
  exact⟨_,by omega,h3,a4,fun q=>⟨_,rfl,.round h1⟩⟩
 ·obtain⟨x,a1,a2,a3,a4⟩:=num rfl
  subst a3
  exact⟨_,by omega,a2,a4,fun q=>⟨_,rfl,.hang x h1 a1⟩⟩
 ·obtain⟨a3,a4⟩:=non rfl
  subst a3
  exact⟨_,by omega,h3,a4,fun q=>⟨_,rfl,.order h1⟩⟩
 ·obtain⟨a3,a4⟩:=non rfl
  subst a3
  exact⟨_,by omega,h3,a4,fun q=>⟨_,rfl,.sure h1⟩⟩
 ·obtain⟨a3,a4⟩:=non rfl
  subst a3
  exact⟨_,by omega,h3,a4,fun q=>⟨_,rfl,.some_ h1⟩⟩
def Todo(ns:List Int)(k:Nat)(st:Sd)(out:List Int)(n:Nat):Prop:=k≤ns.length∧∃f cs,PyFlat.calls PyWqlgse.shape f (ns.drop k)=some cs∧(∀c∈cs,ScanNeutral.asked1 (PyWqlgse.whole c)=true)∧cs.length=n∧out=PyFlat.told (PyFlat.played ScanNeutral.step st (cs.map PyWqlgse.whole))
theorem ah4{ns:List Int}{k:Nat}{st:Sd}{out:List Int}{n:Nat}(h:Todo ns k st out n)(hk:ns.length≤k):out=[]:=by
 obtain⟨_,f,cs,h1,_,_,h3⟩:=h
 rw[List.drop_eq_nil_of_le hk] at h1
 cases f<;>cases h1<;>exact h3
theorem ajb{ns:List Int}{k:Nat}{st:Sd}{out:List Int}{n:Nat}(h:Todo ns k st out n)(hk:k<ns.length):∃c k' n' out',n=n'+1∧k<k'∧CallAt ns k c k'∧Todo ns k' (RungScanSeed.step st c).1 out' n'∧out=(((RungScanSeed.step st c).2.length:Int)::(RungScanSeed.step st c).2)++out':=by
 obtain⟨_,f,cs,h1,h2,h4,h3⟩:=h
 cases hd:ns.drop k with
 |nil=>
  have:=List.drop_eq_nil_iff.mp hd
  omega
 |cons p r=>
  rw[hd] at h1
  cases f with
  |zero=>cases h1
  |succ f=>
   unfold PyFlat.calls at h1
   cases hc:PyFlat.call PyWqlgse.shape (p::r) with
   |none=>rw[hc] at h1;cases h1
   |some u=>
    obtain⟨c0,t⟩:=u
    rw[hc] at h1
    dsimp only at h1
    cases hr:PyFlat.calls PyWqlgse.shape f t with
    |none=>rw[hr] at h1;cases h1
    |some cs'=>
     rw[hr] at h1
     cases h1
     obtain⟨k',g1,g2,g3,g4⟩:=aja hd hc
     obtain⟨c,g5,g6⟩:=g4 (h2 c0 (List.mem_cons_self ..))
     have es:ScanNeutral.step st (PyWqlgse.whole c0)=RungScanSeed.step st c:=by
      unfold ScanNeutral.step
      rw[g5]
     refine⟨c,k',cs'.length,PyFlat.told (PyFlat.played ScanNeutral.step (RungScanSeed.step st c).1 (cs'.map PyWqlgse.whole)),?_,g1,g6,⟨g2,f,cs',by rw[←g3];exact hr,fun d hd'=>h2 d (List.mem_cons_of_mem _ hd'),rfl,rfl⟩,?_⟩
     ·rw[←h4,List.length_cons]
     ·rw[h3,List.map_cons,PyFlat.played,es,PyFlat.told,List.flatMap_cons]
      rfl
theorem afU{ns:List Int}(h:PyWqlgse.answers_asked ns=true):∃n,n≤40∧Todo ns 0 RungScanSeed.start (PyWqlgse.answers ns) n:=by
 unfold PyWqlgse.answers_asked PyWqlgse.answers PyWqlgse.calls at *
 cases hc:PyFlat.calls PyWqlgse.shape ns.length ns with
 |none=>rw[hc] at h;cases h
 |some cs=>
  rw[hc] at h
  dsimp only at h⊢
  rw[Bool.and_eq_true] at h
  obtain⟨h1,h2⟩:=h
  unfold PyFlat.atMost at h1
  rw[List.length_map] at h1
  unfold ScanNeutral.asked at h2
  simp only[Bool.and_eq_true] at h2
  refine⟨cs.length,of_decide_eq_true h1,Nat.zero_le _,ns.length,cs,by rw[List.drop_zero];exact hc,fun c hm=>?_,rfl,rfl⟩
  exact List.all_eq_true.mp h2.2.2 _ (List.mem_map_of_mem hm)
theorem afV{l:List Int}(h:(l.all fun(z:Int)=>decide (0≤z)&&decide (z≤255))=true):kJ (ScanNeutral.bytesOf l)=l.map V.int:=by
 unfold kJ ScanNeutral.bytesOf
 rw[List.map_map]
 refine List.map_congr_left fun z hz=>?_
 have:=List.all_eq_true.mp h z hz
 simp only[Bool.and_eq_true,decide_eq_true_eq] at this
 simp only[Function.comp_def]
 congr 1
 rw[UInt8.toNat_ofNat']
 omega
theorem Tz(h:List (List Nat)):∀(k:Nat) (l o:List Nat),Rung.orderFrom h k l=some o→o.length=l.length+k
 |0,l,o,e=>by
  have e:l=o:=Option.some.inj e
  rw[e]
  rfl
 |k+1,l,o,e=>by
  unfold Rung.orderFrom at e
  split at e
  ·have:=Tz h k _ o e
   rw[List.length_append] at this
   simp at this
   omega
  ·cases e
theorem ag1{s:Rung.Scheme}{o:List Nat}(h:Rung.order s=some o):o.length=s.relays.length:=by
 unfold Rung.order at h
 have:=Tz _ _ _ _ h
 simp at this
 omega
theorem ah5(s:Rung.Scheme):s.used.length≤32:=by
 have:=List.length_filter_le (fun(v:Nat)=>s.contacts.any fun(c:Rung.Contact)=>c.var==v) (List.range 32)
 rw[List.length_range] at this
 exact this
theorem ag2(s:Rung.Scheme)(j:Nat):(Rung.hangsOn s j).length≤32:=by
 unfold Rung.hangsOn
 split
 ·refine Nat.le_trans (List.length_filterMap_le _ _) ?_
  unfold Rung.mattersTo
  exact Nat.le_trans (List.length_filter_le _ _) (ah5 s)
 ·simp
theorem ag3{s:Rung.Scheme}{o:List Nat}{x:Nat}{u:Nat×List Nat}(h:Rung.comesRound s o x=some u):u.2.length≤2^s.relays.length:=by
 obtain⟨m,p,hl,_⟩:=MP.Lh s o x
 rw[MP.Tn hl] at h
 have:=MP.Li hl
 split at h
 ·cases h
 ·have e:=Option.some.inj h
  rw[←e]
  simp
  omega
theorem ah6(s:Rung.Scheme)(x:Nat):(Rung.bySome s x).1.length≤2^s.relays.length:=by
 refine MP.rD (x:=x) (MP.yd (MP.Ig s x)) fun y hy=>?_
 obtain⟨o,_,n,h⟩:=(MP.mem_some s x y).mp hy
 obtain⟨m,p,hl,_⟩:=MP.Lh s o x
 rw[MP.yK hl] at h
 split at h
 ·have e:=(Prod.mk.inj (Option.some.inj h)).1
  rw[←e]
  exact MP.ug m
 ·cases h
theorem qW(l:List Nat):(RungScanSeed.nums l).length=l.length:=by unfold RungScanSeed.nums;rw[List.length_map]
theorem YS{st:Sd}(ok:BP st)(c:RungScanSeed.Call):(RungScanSeed.step st c).2.length≤300:=by
 have hr:=ok.well.rel
 have hl:=ok.len
 unfold RungScanSeed.step
 cases c with
 |load t=>
  dsimp only
  split
  ·simp[RungScanSeed.no]
  ·split<;>simp[RungScanSeed.tells]
 |set x=>
  dsimp only
  split<;>simp[RungScanSeed.no,RungScanSeed.tells]
 |arrange o=>
  dsimp only
  split<;>simp[RungScanSeed.no,RungScanSeed.tells]
 |told=>
  simp[RungScanSeed.tells,qW]
  omega
 |pass=>simp[RungScanSeed.tells]
 |rungs=>
  simp[RungScanSeed.tells,qW,ur]
  omega
 |until_=>
  dsimp only
  split
  ·simp[RungScanSeed.no]
  ·split<;>simp[RungScanSeed.no,RungScanSeed.tells]
 |round=>
  dsimp only
  split
  ·simp[RungScanSeed.no]
  ·rename_i hm
   split
   ·rename_i u hu
    have h1:=ag3 hu
    have h2:2^st.scheme.relays.length≤2^8:=Nat.pow_le_pow_right (by decide) (by have:RungScanSeed.MANY=8:=rfl;omega)
    simp[RungScanSeed.tells,qW]
    omega
   ·simp[RungScanSeed.no]
 |hang j=>
  dsimp only
  split
  ·simp[RungScanSeed.no]
  ·split
   ·simp[RungScanSeed.no]
   ·have:=ag2 st.scheme j.toNat
    simp[RungScanSeed.tells,qW]
    omega
 |order=>
  dsimp only
  split
  ·simp[RungScanSeed.no]
  ·split
   ·rename_i o ho
    have:=ag1 ho
    simp[RungScanSeed.tells,qW]
    omega
   ·simp[RungScanSeed.no]
 |sure=>
  dsimp only
  split
  ·simp[RungScanSeed.no]
  ·split<;>simp[RungScanSeed.tells]
 |some_=>
  dsimp only
  split
  ·simp[RungScanSeed.no]
  ·rename_i hm
   have h1:=ah6 st.scheme st.x
   have h2:2^st.scheme.relays.length≤2^5:=Nat.pow_le_pow_right (by decide) (by have:RungScanSeed.FEW=5:=rfl;omega)
   simp[RungScanSeed.tells,qW]
   omega
open Rung (pass moves unsure whyNot allStates hangsOn)
def LstAt(G:Hp)(v:V)(xs:List Nat):Prop:=∃l,v= .ref l∧G l=some (.lst (nV xs))
def qD:Sp:=fun vs H Q _=>∃b:Nat,vs=[.int (b:Int)]∧b<2^32∧MP.jz b 32≤12∧cQ H Q fun v G=>LstAt G v (MP.cM b 32)
def tH(A:Ad):Sp:=fun vs H Q _=>∃(v:V) (s:Rung.Scheme) (d:Addr),vs=[v]∧gJ A H v s d∧iV s∧cQ H Q fun v G=>LstAt G v s.used
def El(A:Ad):Sp:=fun vs H Q _=>∃(v:V) (s:Rung.Scheme) (d:Addr),vs=[v]∧gJ A H v s d∧iV s∧s.used.length≤6∧cQ H Q fun v G=>LstAt G v (MP.cM (MP.gP s) 32)
def Gv(A:Ad):Sp:=fun vs H Q _=>∃(v:V) (s:Rung.Scheme) (d:Addr),vs=[v]∧gJ A H v s d∧iV s∧cQ H Q fun v G=>LstAt G v (MP.mC s)
def wN(A:Ad):Sp:=fun vs H Q _=>∃(v:V) (s:Rung.Scheme) (d:Addr),vs=[v]∧gJ A H v s d∧iV s∧cQ H Q fun v _=>v= .bl (decide (6<s.used.length))
def Iz(A:Ad):Sp:=fun vs H Q _=>∃(v:V) (s:Rung.Scheme) (j i:Nat) (d:Addr) (n:Nat),vs=[v,.int (j:Int),.int (i:Int)]∧eO A H v s d n∧n≤9000000∧j≤16∧i≤16∧s.used.length≤6∧jA H d s (n+128) Q fun v _=>v= .bl (MP.rN s j i)
def xX(A:Ad):Sp:=fun vs H Q _=>∃(v:V) (s:Rung.Scheme) (j:Nat) (d:Addr) (n:Nat),vs=[v,.int (j:Int)]∧eO A H v s d n∧n≤8000000∧j<s.relays.length∧s.used.length≤6∧jA H d s (n+768) Q fun v G=>LstAt G v (hangsOn s j)
def IK:Sp:=fun vs H Q _=>∃(a b:Addr) (xs os:List Nat),vs=[.ref a,.ref b]∧H a=some (.lst (nV xs))∧H b=some (.lst (nV os))∧xs.length≤1000∧cQ H Q fun v _=>v= .bl (xs.all fun i=>os.contains i)
def akO(G:Hp)(v:V):Option (List Nat)→Prop
 |some o=>LstAt G v o
 |none=>v= .non
def G6(A:Ad):Sp:=fun vs H Q _=>∃(v:V) (s:Rung.Scheme) (d:Addr) (n:Nat),vs=[v]∧eO A H v s d n∧n≤7000000∧s.used.length≤6∧jA H d s (n+9216) Q fun v G=>akO G v (Rung.order s)
def Ds(A:Ad):Sp:=fun vs H Q _=>∃(v:V) (s:Rung.Scheme) (x:Nat) (d:Addr) (n:Nat),vs=[v,.int (x:Int)]∧eO A H v s d n∧n≤9000000∧jA H d s (n+1) Q fun v G=>LstAt G v (MP.eZ s x)
def HN:Sp:=fun vs H Q _=>∃(a r:Addr) (xs:List Nat) (kvs:List (Key×V)),vs=[.ref a,.ref r]∧H a=some (.lst (nV xs))∧H r=some (.dK kvs)∧xs.length≤5000∧cQ H Q fun v _=>v= .bl (xs.all fun x=>(aQ kvs (Sum.inl (x:Int))).isSome)
def qj(G:Hp)(kvs:List (Key×V))(s:Rung.Scheme):Prop:=∀(x:Nat) (v:V),aQ kvs (Sum.inl (x:Int))=some v→∃e ks,v= .ref e∧G e=some (.dK (cN ks))∧MP.Known s x ks
def Fg(A:Ad):Sp:=fun vs H Q _=>∃(x:Nat) (a r:Addr) (xs:List Nat) (kvs:List (Key×V)) (s:Rung.Scheme),vs=[.int (x:Int),.ref a,.ref r]∧H a=some (.lst (nV xs))∧H r=some (.dK kvs)∧qj H kvs s∧(∀y,y∈xs↔y∈moves s x)∧xs.length≤32∧s.relays.length≤5∧(∀y∈xs,aQ kvs (Sum.inl (y:Int))≠none)∧
 cQ H Q fun v G=>∃e ks,v= .ref e∧G e=some (.dK (cN ks))∧MP.Known s x ks
def Em(A:Ad):Sp:=fun vs H Q _=>∃(v:V) (s:Rung.Scheme) (d:Addr) (n:Nat),vs=[v]∧eO A H v s d n∧n≤8000000∧s.relays.length≤5∧s.inputs.length+s.relays.length≤8∧
 jA H d s (n+256) Q fun v G=>∃r kvs,v= .ref r∧G r=some (.dK kvs)∧qj G kvs s∧∀x∈allStates s,aQ kvs (Sum.inl (x:Int))=none→MP.Ring s x
def FN:Sp:=fun vs H Q _=>∃(x:Nat) (r:Addr) (kvs:List (Key×V)) (s:Rung.Scheme),vs=[.int (x:Int),.ref r]∧H r=some (.dK kvs)∧qj H kvs s∧(aQ kvs (Sum.inl (x:Int))=none→MP.Ring s x)∧Q (.int ((whyNot s x:Nat):Int)) H
def akP(G:Hp)(v:V):Option (Nat×Nat)→Prop
 |some u=>LstAt G v [u.1,u.2]
 |none=>v= .non
def FP(A:Ad):Sp:=fun vs H Q _=>∃(v:V) (s:Rung.Scheme) (d:Addr) (n:Nat),vs=[v]∧eO A H v s d n∧n≤8000000∧s.relays.length≤5∧s.inputs.length+s.relays.length≤8∧jA H d s (n+256) Q fun v G=>akP G v (unsure s)
def A_(l:Addr)(p:Nat):List (Str×V):=[("states",.ref l),("back",.int (p:Int))]
theorem tZ(l:Addr)(p:Nat):(A_ l p).lookup ("states":Str)=some (V.ref l):=rfl
theorem K8(l:Addr)(p:Nat):(A_ l p).lookup ("back":Str)=some (V.int (p:Int)):=rfl
def uT(A:Ad)(G:Hp)(v:V)(xs:List Nat)(p:Nat):Prop:=∃a dx l,v= .ref a∧G a=some (.ins A.scan dx (A_ l p))∧G l=some (.lst (nV xs))
theorem uT.mono{A:Ad}{G G':Hp}{v:V}{xs:List Nat}{p:Nat}(s:Same G G')(h:uT A G v xs p):uT A G' v xs p:=by
 obtain⟨a,dx,l,e,h1,h2⟩:=h
 exact⟨a,dx,l,e,s _ _ h1,s _ _ h2⟩
def tD(A:Ad):Sp:=fun vs H Q _=>∃(v:V) (xs:List Nat) (p:Nat),vs=[v]∧uT A H v xs p∧Q (.bl (decide (p+1≠xs.length))) H
def Scanned(A:Ad)(G:Hp)(v:V)(s:Rung.Scheme)(o:List Nat)(x:Nat):Prop:=∃m p,MP.Loop (pass s o) x m p∧uT A G v ((List.range (m+1)).map (MP.aX (pass s o) x)) p
def t_(A:Ad):Sp:=fun vs H Q _=>∃(v:V) (s:Rung.Scheme) (x:Nat) (a:Addr) (o:List Nat) (d:Addr) (n:Nat),vs=[v,.int (x:Int),.ref a]∧eO A H v s d n∧n≤6000000∧H a=some (.lst (nV o))∧o.length≤12∧(∀j∈o,j<s.relays.length)∧s.relays.length≤8∧
 jA H d s (n+2^s.relays.length*o.length) Q fun v G=>Scanned A G v s o x
def G7:Sp:=fun vs H Q _=>∃n:Nat,vs=[.int (n:Int)]∧n≤5∧cQ H Q fun v G=>∃l ls,v= .ref l∧G l=some (.lst ls)∧Paired (LstAt G) ls (MP.dM n)
def Dt(A:Ad):Sp:=fun vs H Q _=>∃(v:V) (s:Rung.Scheme) (x:Nat) (d:Addr) (n:Nat),vs=[v,.int (x:Int)]∧eO A H v s d n∧n≤5000000∧s.relays.length≤5∧
 jA H d s (n+19200) Q fun v G=>∃l ws,v= .ref l∧G l=some (.lst ws)∧Paired (fun w o=>Scanned A G w s o x) ws (MP.dM s.relays.length)
def TF(K:PySem.W.Frag)(A:Ad):TS:=(bB (aZ (aG gU (aG (bx fun i j=>.int (Builtin.bitAnd i j)) (aj 0) (aj 3)) (tC (V.int 0)))) (aY (aG iW (aj 1) (dw (cU K (aj 1)) (aJ 4) fO (aG (bx fun i j=>.int (Builtin.bitOr i j)) (aj 4) (aj 3)) [4])) (aJ 1)) bA)
def TJ(K:PySem.W.Frag)(A:Ad):TS:=(aL (aj 1))
def TQ(K:PySem.W.Frag)(A:Ad):TS:=(aB (eY (uU (ak (Bt K "int" Lr (aj 0)) aq)) (aJ 2) (aB (aY (aG (rI rZ fun i j=>.int (i*2^j.toNat)) (tC (V.int 1)) (aj 2)) (aJ 3)) (TF K A))) (TJ K A))
def IV(K:PySem.W.Frag)(A:Ad):TS:=(aB (aY (bQ (ak (tC (V.int 0)) aq)) (aJ 1)) (TQ K A))
def En(K:PySem.W.Frag)(A:Ad):TS:=(aL (Ky K (ak (dw (cU K (aP K (aj 0) "contacts")) (aJ 1) fO (aP K (aj 1) "variable") [1]) aq)))
def Eo(K:PySem.W.Frag)(A:Ad):TS:=(aL (aU qD (ak (bU (Bv K) (ak (dw (cU K (aU (tH A) (ak (aj 0) aq))) (aJ 1) fO (aG (rI rZ fun i j=>.int (i*2^j.toNat)) (tC (V.int 1)) (aj 1)) [1]) aq)) aq)))
def Gw(K:PySem.W.Frag)(A:Ad):TS:=(aL (dw (cU K (aU (tH A) (ak (aj 0) aq))) (aJ 1) (aZ (aG (bx fun i j=>.bl (decide (j≤i))) (aj 1) (tC (V.int 16)))) (aG (bx fun i j=>.int (i - j)) (aj 1) (tC (V.int 16))) [1]))
def TV(K:PySem.W.Frag)(A:Ad):TS:=(bB (aZ (aG gU (aG (bx fun i j=>.int (Builtin.bitAnd i j)) (aj 4) (aU qz (ak (aj 1) aq))) (tC (V.int 0)))) (aL (tC (V.bl true))) bA)
def adA(K:PySem.W.Frag)(A:Ad):TS:=(aL (tC (V.bl false)))
def IW(K:PySem.W.Frag)(A:Ad):TS:=(aB (eY (cU K (aU (El A) (ak (aj 0) aq))) (aJ 3) (aB (aY (aG (bx fun i j=>.int (Builtin.bitXor i j)) (aU (qp A) (ak (aj 0) (ak (aj 3) aq))) (aU (qp A) (ak (aj 0) (ak (aG (bx fun i j=>.int (Builtin.bitXor i j)) (aj 3) (aU qz (ak (aj 2) aq))) aq)))) (aJ 4)) (TV K A))) (adA K A))
def G8(K:PySem.W.Frag)(A:Ad):TS:=(aL (dw (cU K (aU (Gv A) (ak (aj 0) aq))) (aJ 2) (tB (aU (Iz A) (ak (aj 0) (ak (aj 1) (ak (aj 2) aq))))) (aj 2) [2]))
def I_(K:PySem.W.Frag)(A:Ad):TS:=(aL (bU (sH K) (ak (dw (cU K (aj 0)) (aJ 2) fO (aG (Cq K false) (aj 2) (aj 1)) [2]) aq)))
def Rv(K:PySem.W.Frag)(A:Ad):TS:=(iu (i_ K "list" Ls (aj 1) (ak (aG (cB K) (aj 5) (tC (V.int 0))) aq)))
def Rw(K:PySem.W.Frag)(A:Ad):TS:=(aB (iu (i_ K "list" lM (aj 4) (ak (aG (cB K) (aj 5) (tC (V.int 0))) aq))) (Rv K A))
def FQ(K:PySem.W.Frag)(A:Ad):TS:=(aB (bB (aZ (aG dh (bU (fun xs H Q=>∃p ys,xs=[.ref p]∧(au K H p ys∨bK K H p ys)∧Q (.int ys.length) H) (ak (aj 5) aq)) (tC (V.int 0)))) (aL (tC .non)) bA) (Rw K A))
def Rx(K:PySem.W.Frag)(A:Ad):TS:=(aL (aj 4))
def Ry(K:PySem.W.Frag)(A:Ad):TS:=(aB (rA (aZ (aG (bx fun i j=>.bl (decide (j<i))) (bU (fun xs H Q=>∃p ys,xs=[.ref p]∧(au K H p ys∨bK K H p ys)∧Q (.int ys.length) H) (ak (aj 1) aq)) (tC (V.int 0)))) (aB (aY (dw (cU K (aj 1)) (aJ 3) (tB (aU IK (ak (aG (cB K) (aj 2) (aj 3)) (ak (aj 4) aq)))) (aj 3) [3]) (aJ 5)) (FQ K A))) (Rx K A))
def Rz(K:PySem.W.Frag)(A:Ad):TS:=(aB (aY (bQ aq) (aJ 4)) (Ry K A))
def RB(K:PySem.W.Frag)(A:Ad):TS:=(aB (aY (dw (cU K (aj 1)) (aJ 3) fO (aU (xX A) (ak (aj 0) (ak (aj 3) aq))) [3]) (aJ 2)) (Rz K A))
def G9(K:PySem.W.Frag)(A:Ad):TS:=(aB (aY (qF (ak (bU (fun xs H Q=>∃p ys,xs=[.ref p]∧(au K H p ys∨bK K H p ys)∧Q (.int ys.length) H) (ak (aP K (aj 0) "coils") aq)) aq)) (aJ 1)) (RB K A))
def Ph(K:PySem.W.Frag)(A:Ad):TS:=(aL (dw (cU K (aU qD (ak (aj 2) aq))) (aJ 3) (aZ (aG gU (aj 3) (tC (V.int 0)))) (aG (bx fun i j=>.int (Builtin.bitXor i j)) (aj 1) (aj 3)) [3]))
def Du(K:PySem.W.Frag)(A:Ad):TS:=(aB (aY (aG (bx fun i j=>.int (Builtin.bitAnd i j)) (aG (bx fun i j=>.int (Builtin.bitXor i j)) (aU (qp A) (ak (aj 0) (ak (aj 1) aq))) (aj 1)) (aP K (aj 0) "relay_mask")) (aJ 2)) (Ph K A))
def HS(K:PySem.W.Frag)(A:Ad):TS:=(aL (bU (sH K) (ak (dw (cU K (aj 0)) (aJ 2) fO (vg (aj 2) (aj 1)) [2]) aq)))
def abZ(K:PySem.W.Frag)(A:Ad):TS:=(aL (aj 3))
def Qw(K:PySem.W.Frag)(A:Ad):TS:=(aB (eY (cU K (aj 1)) (aJ 4) (iu (i_ K "dict" Lw (aj 3) (ak (kW (aj 2) (aj 4)) aq)))) (abZ K A))
def ab0(K:PySem.W.Frag)(A:Ad):TS:=(aB (aY kj (aJ 3)) (Qw K A))
def wO(K:PySem.W.Frag)(A:Ad):TS:=(aB (bB (aZ (aG dh (bU (fun xs H Q=>∃p ys,xs=[.ref p]∧(au K H p ys∨bK K H p ys)∧Q (.int ys.length) H) (ak (aj 1) aq)) (tC (V.int 0)))) (aL (Np [((aj 0),(tC (V.bl true)))])) bA) (ab0 K A))
def Qi(K:PySem.W.Frag)(A:Ad):TS:=(aY (dw (cU K (aj 1)) (aJ 3) (tB (nM (aj 3) (aj 4))) (aj 3) [3]) (aJ 1))
def Qj(K:PySem.W.Frag)(A:Ad):TS:=(aB (eY (cU K (aj 5)) (aJ 3) (jo (aj 4) (aj 3) (aU (Fg A) (ak (aj 3) (ak (kW (aj 2) (aj 3)) (ak (aj 4) aq)))))) (Qi K A))
def Ed(K:PySem.W.Frag)(A:Ad):TS:=(aB (bB (aZ (aG dh (bU (fun xs H Q=>∃p ys,xs=[.ref p]∧(au K H p ys∨bK K H p ys)∧Q (.int ys.length) H) (ak (aj 5) aq)) (tC (V.int 0)))) (aL (aj 4)) bA) (Qj K A))
def Qk(K:PySem.W.Frag)(A:Ad):TS:=(rA (tB (tC (V.bl true))) (aB (aY (dw (cU K (aj 1)) (aJ 3) (tB (aU HN (ak (kW (aj 2) (aj 3)) (ak (aj 4) aq)))) (aj 3) [3]) (aJ 5)) (Ed K A)))
def Ql(K:PySem.W.Frag)(A:Ad):TS:=(aB (aY kj (aJ 4)) (Qk K A))
def Qm(K:PySem.W.Frag)(A:Ad):TS:=(aB (eY (cU K (aj 1)) (aJ 3) (jo (aj 2) (aj 3) (aU (Ds A) (ak (aj 0) (ak (aj 3) aq))))) (Ql K A))
def Qn(K:PySem.W.Frag)(A:Ad):TS:=(aB (aY kj (aJ 2)) (Qm K A))
def Ep(K:PySem.W.Frag)(A:Ad):TS:=(aB (aY (aU qD (ak (aP K (aj 0) "mask") aq)) (aJ 1)) (Qn K A))
def QS(K:PySem.W.Frag)(A:Ad):TS:=(aL (vG (aZ (aG (bx fun i j=>.bl (decide (j<i))) (bU (fun xs H Q=>∃a kvs,xs=[V.ref a]∧H a=some (.dK kvs)∧Q (.int kvs.length) H) (ak (kW (aj 1) (aj 0)) aq)) (tC (V.int 1)))) (tC (V.int 2)) (tC (V.int 0))))
def xG(K:PySem.W.Frag)(A:Ad):TS:=(aB (bB (tB (nM (aj 0) (aj 1))) (aL (tC (V.int 1))) bA) (QS K A))
def Er(K:PySem.W.Frag)(A:Ad):TS:=(bB (aZ (aG gU (aj 3) (tC (V.int 0)))) (aL (bQ (ak (aj 2) (ak (aj 3) aq)))) bA)
def ab3(K:PySem.W.Frag)(A:Ad):TS:=(aL (tC .non))
def QT(K:PySem.W.Frag)(A:Ad):TS:=(aB (eY (cU K (aU qD (ak (aP K (aj 0) "mask") aq))) (aJ 2) (aB (aY (aU FN (ak (aj 2) (ak (aj 1) aq))) (aJ 3)) (Er K A))) (ab3 K A))
def FT(K:PySem.W.Frag)(A:Ad):TS:=(aB (aY (aU (Em A) (ak (aj 0) aq)) (aJ 1)) (QT K A))
def wF(K:PySem.W.Frag)(A:Ad):TS:=(aL (aG gU (aP K (aj 0) "back") (aG (bx fun i j=>.int (i - j)) (bU (fun xs H Q=>∃p ys,xs=[.ref p]∧(au K H p ys∨bK K H p ys)∧Q (.int ys.length) H) (ak (aP K (aj 0) "states") aq)) (tC (V.int 1)))))
def Uo(K:PySem.W.Frag)(A:Ad):TS:=(aY (aU (wj A) (ak (aj 0) (ak (aj 4) (ak (aj 2) aq)))) (aJ 4))
def Uq(K:PySem.W.Frag)(A:Ad):TS:=(aL (jW (ZL A) (ak (bU JN (ak (aj 3) aq)) (ak (kW (aj 3) (aj 4)) aq))))
def Ur(K:PySem.W.Frag)(A:Ad):TS:=(aB (rA (tB (nM (aj 4) (aj 3))) (aB (jo (aj 3) (aj 4) (bU (fun xs H Q=>∃a kvs,xs=[V.ref a]∧H a=some (.dK kvs)∧Q (.int kvs.length) H) (ak (aj 3) aq))) (Uo K A))) (Uq K A))
def Us(K:PySem.W.Frag)(A:Ad):TS:=(aB (aY (aj 1) (aJ 4)) (Ur K A))
def Jw(K:PySem.W.Frag)(A:Ad):TS:=(aB (aY kj (aJ 3)) (Us K A))
def RD(K:PySem.W.Frag)(A:Ad):TS:=(aY (aj 3) (aJ 1))
def RG(K:PySem.W.Frag)(A:Ad):TS:=(aB (eY (cU K (aj 1)) (aJ 4) (iu (i_ K "list" zQ (aj 3) (ak (dw (uU (ak (aG (bx fun i j=>.int (i+j)) (aj 2) (tC (V.int 1))) aq)) (aJ 5) fO (aG iW (aG iW (mQ (mH K) (aj 4) j8 (iU (aj 5))) (bQ (ak (aj 2) aq))) (mQ (mH K) (aj 4) (iU (aj 5)) j8)) [5]) aq)))) (RD K A))
def RJ(K:PySem.W.Frag)(A:Ad):TS:=(aL (aj 1))
def RK(K:PySem.W.Frag)(A:Ad):TS:=(aB (eY (uU (ak (aj 0) aq)) (aJ 2) (aB (aY (bQ aq) (aJ 3)) (RG K A))) (RJ K A))
def G_(K:PySem.W.Frag)(A:Ad):TS:=(aB (aY (bQ (ak (bQ aq) aq)) (aJ 1)) (RK K A))
def Dy(K:PySem.W.Frag)(A:Ad):TS:=(aL (dw (cU K (aU G7 (ak (bU (fun xs H Q=>∃p ys,xs=[.ref p]∧(au K H p ys∨bK K H p ys)∧Q (.int ys.length) H) (ak (aP K (aj 0) "coils") aq)) aq))) (aJ 2) fO (aU (t_ A) (ak (aj 0) (ak (aj 1) (ak (aj 2) aq)))) [2]))
def Fi(K:PySem.W.Frag)(A:Ad):TS:=(aL (aG (bx fun i j=>.bl (decide (j<i))) (bU (fun xs H Q=>∃p ys,xs=[.ref p]∧(au K H p ys∨bK K H p ys)∧Q (.int ys.length) H) (ak (aU (tH A) (ak (aj 0) aq)) aq)) (tC (V.int 6))))
def Wd(K:PySem.W.Frag)(A:Ad):TS:=(aL (bQ (ak (tC (V.int 0)) (ak (aP K (aj 0) "state") (ak (aG (bx fun i j=>.int (i - j)) (bU (fun xs H Q=>∃p ys,xs=[.ref p]∧(au K H p ys∨bK K H p ys)∧Q (.int ys.length) H) (ak (aP K (aj 1) "states") aq)) (tC (V.int 1))) aq)))))
def Wf(K:PySem.W.Frag)(A:Ad):TS:=(aB (dg K (aj 0) (aG (cB K) (aP K (aj 1) "states") (ou (rU fun i=>.int (-i)) (tC (V.int 1)))) "state") (Wd K A))
def Wg(K:PySem.W.Frag)(A:Ad):TS:=(aB (bB (tB (jD A.scan "comes_round" (tD A) (aj 1) aq)) (aL (bQ (ak (tC (V.int (-5))) aq))) bA) (Wf K A))
def Wh(K:PySem.W.Frag)(A:Ad):TS:=(aB (aY (aU (t_ A) (ak (aP K (aj 0) "scheme") (ak (aP K (aj 0) "state") (ak (aP K (aj 0) "order") aq)))) (aJ 1)) (Wg K A))
def zK(K:PySem.W.Frag)(A:Ad):TS:=(aB (bB (aZ (aG (bx fun i j=>.bl (decide (j<i))) (bU (fun xs H Q=>∃p ys,xs=[.ref p]∧(au K H p ys∨bK K H p ys)∧Q (.int ys.length) H) (ak (aP K (aP K (aj 0) "scheme") "coils") aq)) (tC (V.int 8)))) (aL (bQ (ak (tC (V.int (-9))) aq))) bA) (Wh K A))
def RL(K:PySem.W.Frag)(A:Ad):TS:=(aL (aG iW (bQ (ak (tC (V.int 0)) (ak (aP K (aj 1) "back") aq))) (mQ (mH K) (aP K (aj 1) "states") (iU (aP K (aj 1) "back")) j8)))
def RM(K:PySem.W.Frag)(A:Ad):TS:=(aB (bB (gA (tB (jD A.scan "comes_round" (tD A) (aj 1) aq))) (aL (bQ (ak (tC (V.int (-5))) aq))) bA) (RL K A))
def RN(K:PySem.W.Frag)(A:Ad):TS:=(aB (aY (aU (t_ A) (ak (aP K (aj 0) "scheme") (ak (aP K (aj 0) "state") (ak (aP K (aj 0) "order") aq)))) (aJ 1)) (RM K A))
def xY(K:PySem.W.Frag)(A:Ad):TS:=(aB (bB (aZ (aG (bx fun i j=>.bl (decide (j<i))) (bU (fun xs H Q=>∃p ys,xs=[.ref p]∧(au K H p ys∨bK K H p ys)∧Q (.int ys.length) H) (ak (aP K (aP K (aj 0) "scheme") "coils") aq)) (tC (V.int 8)))) (aL (bQ (ak (tC (V.int (-9))) aq))) bA) (RN K A))
def Xu(K:PySem.W.Frag)(A:Ad):TS:=(aL (aG iW (bQ (ak (tC (V.int 0)) aq)) (aU (xX A) (ak (aP K (aj 0) "scheme") (ak (aj 1) aq)))))
def Xv(K:PySem.W.Frag)(A:Ad):TS:=(aB (bB (tB (aU (wN A) (ak (aP K (aj 0) "scheme") aq))) (aL (bQ (ak (tC (V.int (-9))) aq))) bA) (Xu K A))
def Ab(K:PySem.W.Frag)(A:Ad):TS:=(aB (bB (gA (aZ (lY (bx fun i j=>.bl (decide (i≤j))) (bx fun i j=>.bl (decide (i<j))) (tC (V.int 0)) (aj 1) (bU (fun xs H Q=>∃p ys,xs=[.ref p]∧(au K H p ys∨bK K H p ys)∧Q (.int ys.length) H) (ak (aP K (aP K (aj 0) "scheme") "coils") aq))))) (aL (bQ (ak (tC (V.int (-1))) aq))) bA) (Xv K A))
def RP(K:PySem.W.Frag)(A:Ad):TS:=(aL (aG iW (bQ (ak (tC (V.int 0)) aq)) (aj 1)))
def RQ(K:PySem.W.Frag)(A:Ad):TS:=(aB (bB (aZ (aG (fun x y H Q=>y= .non∧Q (.bl (decide (x= .non))) H) (aj 1) (tC .non))) (aL (bQ (ak (tC (V.int (-5))) aq))) bA) (RP K A))
def RT(K:PySem.W.Frag)(A:Ad):TS:=(aB (aY (aU (G6 A) (ak (aP K (aj 0) "scheme") aq)) (aJ 1)) (RQ K A))
def xZ(K:PySem.W.Frag)(A:Ad):TS:=(aB (bB (tB (aU (wN A) (ak (aP K (aj 0) "scheme") aq))) (aL (bQ (ak (tC (V.int (-9))) aq))) bA) (RT K A))
def Xw(K:PySem.W.Frag)(A:Ad):TS:=(aL (aG iW (bQ (ak (tC (V.int 0)) (ak (tC (V.int 0)) aq))) (aj 2)))
def Xx(K:PySem.W.Frag)(A:Ad):TS:=(aB (bB (aZ (aG (fun x y H Q=>y= .non∧Q (.bl (decide (x= .non))) H) (aj 2) (tC .non))) (aL (bQ (ak (tC (V.int 0)) (ak (tC (V.int 1)) aq)))) bA) (Xw K A))
def Kc(K:PySem.W.Frag)(A:Ad):TS:=(aB (aY (aU (FP A) (ak (aP K (aj 0) "scheme") aq)) (aJ 2)) (Xx K A))
def Xy(K:PySem.W.Frag)(A:Ad):TS:=(aB (bB (iZ (aZ (aG (bx fun i j=>.bl (decide (j<i))) (aj 1) (tC (V.int 5)))) (aZ (aG (bx fun i j=>.bl (decide (j<i))) (aG (bx fun i j=>.int (i+j)) (aP K (aP K (aj 0) "scheme") "inputs") (aj 1)) (tC (V.int 8))))) (aL (bQ (ak (tC (V.int (-9))) aq))) bA) (Kc K A))
def Ac(K:PySem.W.Frag)(A:Ad):TS:=(aB (aY (bU (fun xs H Q=>∃p ys,xs=[.ref p]∧(au K H p ys∨bK K H p ys)∧Q (.int ys.length) H) (ak (aP K (aP K (aj 0) "scheme") "coils") aq)) (aJ 1)) (Xy K A))
def Xz(K:PySem.W.Frag)(A:Ad):TS:=(aL (aG iW (bQ (ak (tC (V.int 0)) (ak (aj 4) aq))) (Ky K (ak (aj 2) aq))))
def Kd(K:PySem.W.Frag)(A:Ad):TS:=(aB (aY (vG (aZ (aG (bx fun i j=>.bl (decide (i<j))) (bU (fun xs H Q=>∃p ys,xs=[.ref p]∧(au K H p ys∨bK K H p ys)∧Q (.int ys.length) H) (ak (aj 2) aq)) (bU (fun xs H Q=>∃p ys,xs=[.ref p]∧(au K H p ys∨bK K H p ys)∧Q (.int ys.length) H) (ak (aj 1) aq)))) (tC (V.int 1)) (tC (V.int 0))) (aJ 4)) (Xz K A))
def XC(K:PySem.W.Frag)(A:Ad):TS:=(aB (aY (dw (cU K (aj 1)) (aJ 3) (gA (tB (jD A.scan "comes_round" (tD A) (aj 3) aq))) (aG (cB K) (aP K (aj 3) "states") (ou (rU fun i=>.int (-i)) (tC (V.int 1)))) [3]) (aJ 2)) (Kd K A))
def XD(K:PySem.W.Frag)(A:Ad):TS:=(aB (aY (aU (Dt A) (ak (aP K (aj 0) "scheme") (ak (aP K (aj 0) "state") aq))) (aJ 1)) (XC K A))
def Ae(K:PySem.W.Frag)(A:Ad):TS:=(aB (bB (aZ (aG (bx fun i j=>.bl (decide (j<i))) (bU (fun xs H Q=>∃p ys,xs=[.ref p]∧(au K H p ys∨bK K H p ys)∧Q (.int ys.length) H) (ak (aP K (aP K (aj 0) "scheme") "coils") aq)) (tC (V.int 5)))) (aL (bQ (ak (tC (V.int (-9))) aq))) bA) (XD K A))
open Rung (pass moves unsure whyNot allStates hangsOn)
theorem Mi{β:Type}(p:Nat→Bool)(f:Nat→β)(xs:List Nat):((List.range xs.length).filter fun i=>p (xs.getD i 0)).map (fun i=>f (xs.getD i 0))=(xs.filter p).map f:=by
 have e:xs=(List.range xs.length).map fun i=>xs.getD i 0:=by
  refine List.ext_getElem (by simp) fun i h1 h2=>?_
  simp[List.getD,h1]
 conv=>rhs;rw[e]
 rw[List.filter_map,List.map_map]
 rfl
theorem lV{K:PySem.W.Frag}{a:Addr}{xs:List Nat}{slot:Nat}{tt:TT}{te:TE}{σ:L2.St}{H1:Hp}{D:Addr}{Qd:Hp→Prop}(flt:Nat→Bool)(g:Nat→V)(hD:H1 D=none)(hx:H1 a=some (.lst (nV xs)))
 (ht:∀x∈xs,∀Hc,Same H1 Hc→∀Qt:Bool→Hp→Prop,(∀H3,Same Hc H3→Qt (flt x) H3)→tt ((L2.wipe σ [slot]).set slot (some (.int (x:Int)))) Hc Qt)
 (he:∀x∈xs,flt x=true→∀Hc,Same H1 Hc→∀Qe:VK,Qe (g x) Hc→te ((L2.wipe σ [slot]).set slot (some (.int (x:Int)))) Hc Qe)
 (hn:xs.length≤100000)(hq:∀H',Same H1 H'→H' D=some (.lst ((xs.filter flt).map g))→Qd H'):
 ∃W:Nat→Nat→Hp→Prop,(∃m,W 0 m (upd H1 D (.lst [])))∧∀i m H,W i m H→
  ((iH K a).stop i H∧Qd H)∨((iH K a).go i H∧∃Nx:Hp→Prop,(∀H',Nx H'→∃m',m'<m∧W (i+1) m' H')∧∀x H',(iH K a).fY i H x H'→aJ slot x (L2.wipe σ [slot]) H' fun σ2 H2=>L2.wipe σ2 [slot]=L2.wipe σ [slot]∧tt σ2 H2 fun b H3=>
    if b=true then te σ2 H3 fun y H4=>∃acc,H4 D=some (.lst acc)∧acc.length<sizeLine∧Nx (upd H4 D (.lst (acc++[y]))) else Nx H3):=by
 refine lF (fun i=>flt (xs.getD i 0)) (fun i y _=>y=g (xs.getD i 0)) hD (au.of hx) (fun i x Hc hi sm Qt h=>?_) (fun i x Hc hi hf sm Qe h=>?_) (fun _ _ _ _ _ p=>p) (by rw[bT,sizeLine_eq];omega) fun ys H' s' hy pr=>?_
 ·obtain⟨k,hk,rfl⟩:=iM hi
  have:=ht k (List.mem_of_getElem? hk) Hc sm Qt
  rw[getD_some hk] at h
  exact this h
 ·obtain⟨k,hk,rfl⟩:=iM hi
  rw[getD_some hk] at hf h
  exact he k (List.mem_of_getElem? hk) hf Hc sm Qe (h _ Hc (Same.refl _) rfl)
 ·refine hq H' s' ?_
  rw[hy,lB pr,bT,Mi flt g xs]
theorem pD(xs:List Nat)(f:Nat→Nat):nV (xs.map f)=xs.map fun x=>V.int ((f x:Nat):Int):=by unfold nV;rw[List.map_map];rfl
theorem j6{α:Type}(l:List α):l.filter (fun _=>true)=l:=by simp
theorem ah7{b:Nat}(h:b<2^32):Builtin.Int.intBits (b:Int)≤32∧b<2^Builtin.Int.intBits (b:Int):=by
 unfold Builtin.Int.intBits
 by_cases c:b=0
 ·subst c
  simp
 ·have hb:((b:Int)==0)=false:=by simpa using c
  rw[hb]
  simp only[Bool.false_eq_true,if_false,Int.natAbs_natCast]
  have h1:2^b.log2≤b:=Nat.log2_self_le c
  have h2:b<2^(b.log2+1):=Nat.lt_log2_self
  refine⟨?_,h2⟩
  have:b.log2<32:=(Nat.log2_lt c).mpr h
  omega
theorem aap{b n m:Nat}(h:b<2^n)(h':b<2^m):MP.cM b n=MP.cM b m:=MP.tW (MP.yL b n) (MP.yL b m) fun x=>by rw[MP.qZ h,MP.qZ h']
theorem Wi{b:Nat}(h:MP.jz b 32≤12):∀n,n≤32→(MP.cM b n).length≤4096:=by
 intro n hn
 rw[MP.z7]
 have h1:MP.jz b n≤MP.jz b 32:=by
  unfold MP.jz
  have:(List.range n).Sublist (List.range 32):=by
   have:=List.take_sublist n (List.range 32)
   rw[List.take_range,Nat.min_eq_left hn] at this
   exact this
  exact(this.filter _).length_le
 exact Nat.pow_le_pow_right (by decide) (Nat.le_trans h1 h)
def ajc(b:Nat)(H:Hp):Nat→L2.St→Hp→Prop:=fun i σ Hc=>∃(l:Addr) (v2 v3:Option V),σ=[some (.int (b:Int)),some (.ref l),v2,v3,none]∧Same H Hc∧H l=none∧Hc l=some (.lst (nV (MP.cM b i)))
section
variable{K:PySem.W.Frag}{mg:Str→Option Value}{A:Ad}
theorem afW(T:Tx K mg A)(vs:List V)(H:Hp)(Q:VK)(E:XK)(h:qD vs H Q E):IV K A {nx:=fun _ H'=>Q .non H',rt:=Q} (L2.start ["bits","parts","place","bit","part"] vs) H:=by
 obtain⟨b,rfl,hb,hc,q⟩:=h
 show IV K A _ [some (.int (b:Int)),none,none,none,none] H
 obtain⟨hl,hlt⟩:=ah7 hb
 refine⟨len1 _,fun p hp=>?_⟩
 show TQ K A _ [some (.int (b:Int)),some (.ref p),none,none,none] (upd H p (.lst (nV [0])))
 refine⟨_,rfl,rfl,b,rfl,rfl,_,rfl,by omega,by omega,?_⟩
 rw[Int.toNat_natCast]
 refine Wv (ajc b H) ⟨p,none,none,rfl,bI hp,hp,aC⟩ ?_ ?_
 ·rintro i σ H1 hi ⟨l,v2,v3,rfl,s1,hl0,hl1⟩
  have hpl:=Wi hc i (by omega)
  show aB _ _ _ [some (.int (b:Int)),some (.ref l),some (.int (0+(i:Int))),v3,none] H1
  rw[Int.zero_add]
  unfold TF
  walk_at"rd"
  refine⟨⟨by omega,by omega,by decide⟩,?_⟩
  have e1:(1:Int)*2^(i:Int).toNat=((2^i:Nat):Int):=by rw[Int.toNat_natCast,Int.one_mul,two_pow_cast]
  rw[e1,uP]
  by_cases c:b.testBit i=true
  ·rw[if_pos (by
    have:=(MP.Jg b i).mpr c
    simp only[Bool.not_eq_eq_eq_not,Bool.not_true,decide_eq_false_iff_not]
    omega)]
   refine⟨_,rfl,l,rfl,⟨_,au.of hl1⟩,fun D hD=>?_⟩
   refine lV (fun _=>true) (fun x=>V.int ((x ||| 2^i:Nat):Int)) hD hl1 (fun x hx Hc sm Qt h=>h Hc (Same.refl _)) (fun x hx _ Hc sm Qe h=>?_) (by omega) fun H2 s2 hy=>?_
   ·refine⟨_,rfl,_,rfl,_,_,rfl,rfl,?_⟩
    show Qe (.int (Builtin.bitOr (x:Int) ((2^i:Nat):Int))) Hc
    rw[Bf]
    exact h
   ·rw[j6,←pD] at hy
    refine⟨D,rfl,_,s2 _ _ hl1,_,hy,by rw[bT,bT,List.length_map,sizeLine_eq];omega,fun p2 hp2=>?_⟩
    have s12:=s1.trans s2
    refine⟨p2,_,_,rfl,cC s12 (s12.free hp2),s12.free hp2,?_⟩
    rw[aC,←jh]
    show _=some (HO.lst (nV (if b.testBit i=true then MP.cM b i++(MP.cM b i).map (fun p=>p ||| 2^i) else MP.cM b i)))
    rw[if_pos c]
  ·rw[if_neg (by
    have:¬(b&&& 2^i≠0):=fun z=>c ((MP.Jg b i).mp z)
    simp only[Bool.not_eq_eq_eq_not,Bool.not_true,decide_eq_false_iff_not]
    omega)]
   refine⟨l,_,_,rfl,s1,hl0,?_⟩
   rw[hl1]
   show _=some (HO.lst (nV (if b.testBit i=true then _ else MP.cM b i)))
   rw[if_neg c]
 ·rintro σ H1 ⟨l,v2,v3,rfl,s1,hl0,hl1⟩
  show TJ K A _ _ H1
  refine⟨_,rfl,q _ H1 s1 ⟨l,rfl,bO hl0 ?_⟩⟩
  rw[hl1,aap hlt hb]
end
open Rung (pass moves unsure whyNot allStates hangsOn)
theorem akQ{s:Rung.Scheme}(hw:iV s):∀c∈s.contacts,c.var<32:=fun c hc=>by
 have h:=hw.var c hc
 unfold Rung.Scheme.hasVar at h
 simp at h
 have:=hw.ins
 have:=hw.rel
 omega
theorem XF(s:Rung.Scheme):s.used.length≤32:=by
 unfold Rung.Scheme.used
 exact Nat.le_trans (List.length_filter_le _ _) (by simp)
theorem ZM{s:Rung.Scheme}{v:Nat}(h:v∈s.used):v<32:=((MP.Yo s v).mp h).1
theorem Wj{ns:List Int}{P:Nat→Prop}(h1:ns.Pairwise (· < ·))(h2:∀k,k∈ns↔∃v:Nat,k=(v:Int)∧P v):∃l:List Nat,ns=l.map (fun(n:Nat)=>(n:Int))∧l.Pairwise (· < ·)∧∀v,v∈l↔P v:=by
 refine⟨ns.map Int.toNat,?_,?_,fun v=>?_⟩
 ·rw[List.map_map]
  conv=>lhs;rw[←List.map_id ns]
  refine List.map_congr_left fun k hk=>?_
  obtain⟨v,rfl,_⟩:=(h2 k).mp hk
  simp
 ·rw[List.pairwise_map]
  refine h1.imp_of_mem fun {a b} ha hb hab=>?_
  obtain⟨v,rfl,_⟩:=(h2 a).mp ha
  obtain⟨w,rfl,_⟩:=(h2 b).mp hb
  simp
  omega
 ·rw[List.mem_map]
  constructor
  ·rintro⟨k,hk,rfl⟩
   obtain⟨v,rfl,hv⟩:=(h2 k).mp hk
   simpa using hv
  ·intro hv
   exact⟨(v:Int),(h2 _).mpr ⟨v,rfl,hv⟩,by simp⟩
theorem nZ(l:List Nat):(l.map fun(n:Nat)=>(n:Int)).map V.int=nV l:=by unfold nV;rw[List.map_map];rfl
section
variable{K:PySem.W.Frag}{mg:Str→Option Value}{A:Ad}
theorem aci(T:Tx K mg A)(vs:List V)(H:Hp)(Q:VK)(E:XK)(h:tH A vs H Q E):En K A {nx:=fun _ H'=>Q .non H',rt:=Q} (L2.start ["scheme","contact"] vs) H:=by
 obtain⟨v,s,d,rfl,hs,hw,q⟩:=h
 obtain⟨a,dx,lc,lk,cs,rfl,ha,hc,hk,hp⟩:=hs
 show En K A _ [some (.ref a),none] H
 have hlen:=d9 hp
 have hcon:=hw.con
 refine⟨_,rfl,a,_,dx,_,_,rfl,ha,T.cW,T.tG,Uk _ _ _ _ _,lk,rfl,⟨_,au.of hk⟩,fun D hD=>?_⟩
 refine lF (fun _=>true) (fun i y _=>y= .int (((s.contacts.map (·.var)).getD i 0:Nat):Int)) hD (au.of hk) (fun i x Hc hi sm Qt h=>h Hc (Same.refl _)) (fun i x Hc hi hf sm Qe h=>?_) (fun _ _ _ _ _ p=>p) (by rw[sizeLine_eq];omega) fun ys H1 s1 hy pr=>?_
 ·obtain⟨c,hc',b,mO,n,rfl,hb,hn⟩:=gH hp hi
  refine⟨_,rfl,b,_,mO,_,_,rfl,sm _ _ hb,T.m9,T.tE,Uj _ _ _,h _ Hc (Same.refl _) ?_⟩
  rw[getD_some (show(s.contacts.map (·.var))[i]? =some c.var by rw[List.getElem?_map,hc'];rfl)]
 ·have ey:ys=nV (s.contacts.map (·.var)):=by
   rw[lB pr,j6,hlen]
   have:=Mi (fun _=>true) (fun x=>V.int ((x:Nat):Int)) (s.contacts.map (·.var))
   rw[j6,j6,List.length_map] at this
   exact this
  refine⟨D,(s.contacts.map (·.var)).map (fun(n:Nat)=>(n:Int)),rfl,au.of (by rw[hy,ey,nZ]),by simp;omega,fun ns' p h1 h2 hp'=>?_⟩
  obtain⟨l,e1,e2,e3⟩:=Wj (P:=fun v=>∃c∈s.contacts,c.var=v) h1 fun k=>by
   rw[h2]
   simp only[List.mem_map]
   constructor
   ·rintro⟨v,⟨c,hc1,rfl⟩,rfl⟩
    exact⟨c.var,rfl,c,hc1,rfl⟩
   ·rintro⟨v,rfl,c,hc1,rfl⟩
    exact⟨c.var,⟨c,hc1,rfl⟩,rfl⟩
  have el:=MP.aiI (akQ hw) e2 e3
  subst el
  have hp0:=s1.free hp'
  refine q _ _ (cC s1 hp0) ⟨p,rfl,bO hp0 ?_⟩
  rw[aC,e1,nZ]
theorem acI(T:Tx K mg A)(vs:List V)(H:Hp)(Q:VK)(E:XK)(h:wN A vs H Q E):Fi K A {nx:=fun _ H'=>Q .non H',rt:=Q} (L2.start ["scheme"] vs) H:=by
 obtain⟨v,s,d,rfl,hs,hw,q⟩:=h
 show Fi K A _ [some v] H
 refine⟨_,rfl,v,s,d,rfl,hs,hw,fun w H1 s1 ⟨l,e,hl⟩=>?_⟩
 subst e
 refine⟨l,_,rfl,.inl (au.of (bW _ _ _ _ hl)),_,_,rfl,rfl,q _ H1 s1 ?_⟩
 rw[bT]
 show V.bl (decide ((6:Int)<(s.used.length:Int)))=V.bl (decide (6<s.used.length))
 congr 1
 rw[decide_eq_decide]
 omega
theorem adB(T:Tx K mg A)(vs:List V)(H:Hp)(Q:VK)(E:XK)(h:Gv A vs H Q E):Gw K A {nx:=fun _ H'=>Q .non H',rt:=Q} (L2.start ["scheme","variable"] vs) H:=by
 obtain⟨v,s,d,rfl,hs,hw,q⟩:=h
 show Gw K A _ [some v,none] H
 refine⟨_,rfl,v,s,d,rfl,hs,hw,fun w H1 s1 ⟨l,e,hl⟩=>?_⟩
 subst e
 have hl1:=bW _ _ _ _ hl
 refine⟨l,rfl,⟨_,au.of hl1⟩,fun D hD=>?_⟩
 refine lV (fun x=>decide (16≤x)) (fun x=>V.int ((x - 16:Nat):Int)) hD hl1 (fun x hx Hc sm Qt h=>?_) (fun x hx hf Hc sm Qe h=>?_) (by have:=XF s;omega) fun H2 s2 hy=>?_
 ·refine⟨_,rfl,_,_,rfl,rfl,_,rfl,?_⟩
  have e:decide ((16:Int)≤(x:Int))=decide (16≤x):=by rw[decide_eq_decide];omega
  rw[e]
  exact h Hc (Same.refl _)
 ·refine⟨_,rfl,_,_,rfl,rfl,?_⟩
  rw[decide_eq_true_eq] at hf
  have e:(x:Int) - 16=((x - 16:Nat):Int):=by omega
  show Qe (.int ((x:Int) - 16)) Hc
  rw[e]
  exact h
 ·have s12:=s1.trans s2
  have hD0:=s1.free hD
  refine q _ H2 s12 ⟨D,rfl,bO hD0 ?_⟩
  rw[hy,←pD]
  unfold MP.mC
  congr 3
  generalize s.used=us
  induction us with
  |nil=>rfl
  |cons a r ih=>
   rw[List.filter_cons,List.filterMap_cons]
   by_cases c:16≤a
   ·rw[decide_eq_true c,if_pos rfl,if_pos c,List.map_cons,ih]
   ·rw[decide_eq_false c,if_neg (by simp),if_neg c,ih]
theorem acj(T:Tx K mg A)(vs:List V)(H:Hp)(Q:VK)(E:XK)(h:El A vs H Q E):Eo K A {nx:=fun _ H'=>Q .non H',rt:=Q} (L2.start ["scheme","variable"] vs) H:=by
 obtain⟨v,s,d,rfl,hs,hw,hu,q⟩:=h
 show Eo K A _ [some v,none] H
 refine⟨_,rfl,v,s,d,rfl,hs,hw,fun w H1 s1 ⟨l,e,hl⟩=>?_⟩
 subst e
 have hl1:=bW _ _ _ _ hl
 refine⟨l,rfl,⟨_,au.of hl1⟩,fun D hD=>?_⟩
 refine lV (fun _=>true) (fun x=>V.int ((2^x:Nat):Int)) hD hl1 (fun x hx Hc sm Qt h=>h Hc (Same.refl _)) (fun x hx hf Hc sm Qe h=>?_) (by omega) fun H2 s2 hy=>?_
 ·have:=ZM hx
  refine⟨_,rfl,_,_,rfl,rfl,⟨by omega,by omega,by decide⟩,?_⟩
  show Qe (.int (1*2^(x:Int).toNat)) Hc
  rw[Int.toNat_natCast,Int.one_mul,two_pow_cast]
  exact h
 ·rw[j6] at hy
  have s12:=s1.trans s2
  have esum:((s.used.map fun x=>2^x).map fun(n:Nat)=>(n:Int)).sum=((MP.gP s:Nat):Int):=YJ _
  refine⟨D,(s.used.map fun x=>2^x).map fun(n:Nat)=>(n:Int),rfl,au.of (by rw[hy,nZ,pD]),MP.gP s,by rw[esum],MP.Yq s,?_,fun w H3 s3 ⟨l3,e3,hl3⟩=>?_⟩
  ·exact Nat.le_trans (MP.uG fun v hv=>(MP.za s v).mp hv) (by omega)
  ·subst e3
   exact q _ H3 (s12.trans s3) ⟨l3,rfl,zX s12 _ _ hl3⟩
end
open Rung (pass moves unsure whyNot allStates hangsOn)
def chg(s:Rung.Scheme)(j i x:Nat):Bool:=decide ((MP.dX s x^^^MP.dX s (x^^^2^(16+i)))&&& 2^(16+j)≠0)
theorem YT(s:Rung.Scheme)(j i:Nat):MP.rN s j i=(MP.cM (MP.gP s) 32).any (chg s j i):=rfl
def akf(v:V)(s:Rung.Scheme)(j i:Nat)(d:Addr)(n:Nat)(H:Hp)(xs:List Nat):Nat→L2.St→Hp→Prop:=fun k σ Hc=>∃v3 v4:Option V,σ=[some v,some (.int (j:Int)),some (.int (i:Int)),v3,v4]∧Near d H Hc∧cD Hc d s (n+2*k)∧∀m x,m<k→xs[m]? =some x→chg s j i x=false
section
variable{K:PySem.W.Frag}{mg:Str→Option Value}{A:Ad}
theorem afX(T:Tx K mg A)(vs:List V)(H:Hp)(Q:VK)(E:XK)(h:Iz A vs H Q E):IW K A {nx:=fun _ H'=>Q .non H',rt:=Q} (L2.start ["scheme","relay","other","state","changed"] vs) H:=by
 obtain⟨v,s,j,i,d,n,rfl,hS,hn,hj,hi,hu,q⟩:=h
 show IW K A _ [some v,some (.int (j:Int)),some (.int (i:Int)),none,none] H
 have hlen:(MP.cM (MP.gP s) 32).length≤64:=Nat.le_trans (MP.adR s) (Nat.pow_le_pow_right (n:=2) (by decide) hu)
 refine⟨_,rfl,v,s,d,rfl,hS.sees,hS.well,hu,fun w H1 s1 ⟨l,e,hl⟩=>?_⟩
 subst e
 have hl1:=bW _ _ _ _ hl
 have vU:l≠d:=fun z=>hS.d8.ne (by rw[←z];exact(cu hl).1)
 have S1:=hS.same s1
 refine⟨l,rfl,⟨_,au.of hl1⟩,lE (xs:=nV (MP.cM (MP.gP s) 32)) (akf v s j i d n H1 (MP.cM (MP.gP s) 32)) ⟨none,none,rfl,Near.refl _ _,S1.d8,fun m x hm=>absurd hm (Nat.not_lt_zero m)⟩ (fun k σ H' _ ⟨_,_,_,nr,_⟩=>au.of (nr.get vU hl1)) ?_ ?_⟩
 ·rintro k y σ Hc hk ⟨v3,v4,rfl,nr,dr,hno⟩
  obtain⟨x,hx,rfl⟩:=iM hk
  have hkl:=(List.getElem?_eq_some_iff.mp hx).1
  show aB _ _ _ [some v,some (.int (j:Int)),some (.int (i:Int)),some (.int (x:Int)),v4] Hc
  refine⟨_,rfl,_,rfl,v,s,x,d,n+2*k,rfl,S1.near nr dr,by omega,fun w1 H2 n2 d2 e2=>?_⟩
  subst e2
  refine⟨_,rfl,_,rfl,_,rfl,i,rfl,by omega,_,_,rfl,rfl,v,s,x^^^2^(16+i),d,n+2*k+1,by show [v,V.int (Builtin.bitXor (x:Int) ((2^(16+i):Nat):Int))]=_;rw[Ax],S1.near (nr.trans n2) d2,by omega,fun w2 H3 n3 d3 e3=>?_⟩
  subst e3
  refine⟨_,_,rfl,rfl,?_⟩
  show TV K A _ [some v,some (.int (j:Int)),some (.int (i:Int)),some (.int (x:Int)),some (.int (Builtin.bitXor ((MP.dX s x:Nat):Int) ((MP.dX s (x^^^2^(16+i)):Nat):Int)))] H3
  rw[Ax]
  have nr3:=nr.trans (n2.trans n3)
  refine⟨_,rfl,_,rfl,j,rfl,by omega,_,_,rfl,rfl,rfl,_,rfl,?_⟩
  show if(!decide (V.int (Builtin.bitAnd ((MP.dX s x^^^MP.dX s (x^^^2^(16+i)):Nat):Int) ((2^(16+j):Nat):Int))=V.int 0))=true then _ else _
  rw[uP]
  have ec:(!decide (V.int (((MP.dX s x^^^MP.dX s (x^^^2^(16+i)))&&& 2^(16+j):Nat):Int)=V.int 0))=chg s j i x:=by
   unfold chg
   rw[Bool.eq_iff_iff]
   simp only[Bool.not_eq_true',decide_eq_false_iff_not,decide_eq_true_eq,V.int.injEq,ne_eq]
   omega
  rw[ec]
  cases hc:chg s j i x with
  |true=>
   rw[if_pos rfl]
   refine q _ H3 ((Near.of s1).trans nr3) (d3.le (by omega)) ?_
   rw[YT]
   congr 1
   symm
   exact List.any_eq_true.mpr ⟨x,List.mem_of_getElem? hx,hc⟩
  |false=>
   rw[if_neg (by simp)]
   refine⟨_,_,rfl,nr3,d3.le (by omega),fun m z hm hz=>?_⟩
   by_cases e:m=k
   ·subst e
    rw[hx] at hz
    cases hz
    exact hc
   ·exact hno m z (by omega) hz
 ·rintro σ Hc ⟨v3,v4,rfl,nr,dr,hno⟩
  rw[bT] at dr hno
  refine q _ Hc ((Near.of s1).trans nr) (dr.le (by omega)) ?_
  rw[YT]
  congr 1
  symm
  rw[List.any_eq_false]
  intro x hx
  obtain⟨m,hm⟩:=List.mem_iff_getElem?.mp hx
  rw[hno m x (List.getElem?_eq_some_iff.mp hm).1 hm]
  simp
theorem adZ(T:Tx K mg A)(vs:List V)(H:Hp)(Q:VK)(E:XK)(h:xX A vs H Q E):G8 K A {nx:=fun _ H'=>Q .non H',rt:=Q} (L2.start ["scheme","relay","other"] vs) H:=by
 obtain⟨v,s,j,d,n,rfl,hS,hn,hj,hu,q⟩:=h
 show G8 K A _ [some v,some (.int (j:Int)),none] H
 have hrel:=hS.well.rel
 refine⟨_,rfl,v,s,d,rfl,hS.sees,hS.well,fun w H1 s1 ⟨l,e,hl⟩=>?_⟩
 subst e
 have hl1:=bW _ _ _ _ hl
 have S1:=hS.same s1
 have hlen:=Nat.le_trans (MP.JK s) hu
 refine⟨l,rfl,⟨_,au.of hl1⟩,fun D hD=>?_⟩
 refine KR (s:=s) (d:=d) (fun k=>MP.rN s j ((MP.mC s).getD k 0)) (fun k=>n+128*k) (fun k=>n+128*k+128) (fun k y _=>y= .int (((MP.mC s).getD k 0:Nat):Int)) hD hl1 S1.d8 (fun k x Hc hk nr dr Qt g=>?_) (fun k x Hc hk hf nr dr Qe g=>?_) (fun k=>by omega) (fun _ _ _ _ _ p=>p) (by rw[bT,sizeLine_eq];omega) fun ys H2 n2 d2 hy pr=>?_
 ·obtain⟨i,hi,rfl⟩:=iM hk
  have hkl:=(List.getElem?_eq_some_iff.mp hi).1
  have alS:=ZM ((MP.agy s i).mp (List.mem_of_getElem? hi))
  refine⟨_,rfl,_,rfl,_,rfl,v,s,j,i,d,n+128*k,rfl,S1.near nr dr,by omega,by omega,by omega,hu,fun w H3 n3 d3 e3=>⟨_,e3,?_⟩⟩
  rw[getD_some hi] at g
  exact g H3 n3 d3
 ·obtain⟨i,hi,rfl⟩:=iM hk
  exact⟨_,rfl,g _ Hc (Near.refl _ _) (dr.le (by omega)) (by rw[getD_some hi])⟩
 ·rw[bT] at d2
  refine q _ H2 ((Near.of s1).trans n2) (d2.le (by omega)) ⟨D,rfl,bO (s1.free hD) ?_⟩
  rw[hy,lB pr,bT,Mi (MP.rN s j) (fun x=>V.int ((x:Nat):Int)),MP.Lk hj]
  rfl
theorem akg(i:Nat)(os:List Nat):inV (.int (i:Int)) (nV os)=os.contains i:=by
 unfold inV nV
 rw[List.any_map,List.contains_eq_any_beq]
 congr 1
 funext k
 simp only[Function.comp_def]
 rw[Bool.eq_iff_iff]
 simp[k_]
 omega
theorem ajd(os:List Nat):(nV os).all mj=true:=by
 unfold nV
 rw[List.all_map,List.all_eq_true]
 intro x _
 rfl
theorem afY(T:Tx K mg A)(vs:List V)(H:Hp)(Q:VK)(E:XK)(h:IK vs H Q E):I_ K A {nx:=fun _ H'=>Q .non H',rt:=Q} (L2.start ["relays","order","relay"] vs) H:=by
 obtain⟨a,b,xs,os,rfl,ha,hb,hl,q⟩:=h
 show I_ K A _ [some (.ref a),some (.ref b),none] H
 refine⟨_,rfl,a,rfl,⟨_,au.of ha⟩,fun D hD=>?_⟩
 refine lV (fun _=>true) (fun x=>V.bl (os.contains x)) hD ha (fun x hx Hc sm Qt h=>h Hc (Same.refl _)) (fun x hx hf Hc sm Qe h=>?_) (by omega) fun H1 s1 hy=>?_
 ·refine⟨_,rfl,_,rfl,b,_,rfl,.inl (au.of (sm _ _ hb)),rfl,ajd os,?_⟩
  rw[if_neg (by simp),akg]
  exact h
 ·rw[j6] at hy
  refine⟨D,xs.map fun x=>os.contains x,rfl,au.of (by rw[hy,List.map_map];rfl),q _ H1 s1 ?_⟩
  rw[List.all_map]
  rfl
end
open Rung (pass moves unsure whyNot allStates hangsOn)
theorem YW(n:Nat)(l:List Nat):(MP.eG n l).Sublist (List.range n):=List.filter_sublist
theorem aeV(n:Nat)(l:List Nat):(MP.eG n l).length≤n:=by
 have:=(YW n l).length_le
 rwa [List.length_range] at this
theorem aje{n:Nat}{l:List Nat}{j:Nat}(h:j∈MP.eG n l):j<n:=List.mem_range.mp ((YW n l).subset h)
theorem ag4(xs:List Nat)(k:Nat):(xs.map fun(n:Nat)=>(n:Int)).erase (k:Int)=(xs.erase k).map fun(n:Nat)=>(n:Int):=by
 induction xs with
 |nil=>rfl
 |cons a r ih=>
  rw[List.map_cons,List.erase_cons,List.erase_cons]
  by_cases e:a=k
  ·subst e
   simp
  ·have h1:((a:Int)==(k:Int))=false:=by rw[beq_eq_false_iff_ne];omega
   have h2:(a==k)=false:=by simpa using e
   rw[h1,h2]
   simp only[Bool.false_eq_true,if_false,List.map_cons]
   rw[ih]
def needs(s:Rung.Scheme):List (List Nat):=(List.range s.relays.length).map (hangsOn s)
theorem order_eq(s:Rung.Scheme):Rung.order s=Rung.orderFrom (needs s) s.relays.length []:=by
 show Rung.orderFrom (needs s) (needs s).length []=_
 have:(needs s).length=s.relays.length:=by unfold needs;rw[List.length_map,List.length_range]
 rw[this]
def abh(a L Nd O:Addr)(s:Rung.Scheme)(G1 H1:Hp):Nat→L2.St→Hp→Prop:=fun m σ Hc=>∃(l:List Nat) (v3 v5:Option V),σ=[some (.ref a),some (.ref L),some (.ref Nd),v3,some (.ref O),v5]∧Same G1 Hc∧(∀b,Hc b=none→H1 b=none)∧Hc L=some (.lst (nV (MP.eG s.relays.length l)))∧Hc O=some (.lst (nV l))∧m=(MP.eG s.relays.length l).length∧Rung.order s=Rung.orderFrom (needs s) m l∧l.length+m=s.relays.length
section
variable{K:PySem.W.Frag}{mg:Str→Option Value}{A:Ad}
theorem ad0(T:Tx K mg A)(vs:List V)(H:Hp)(Q:VK)(E:XK)(h:G6 A vs H Q E):G9 K A {nx:=fun _ H'=>Q .non H',rt:=Q} (L2.start ["scheme","left","needs","relay","order","free"] vs) H:=by
 obtain⟨v,s,d,n,rfl,hS,hn,hu,q⟩:=h
 show G9 K A _ [some v,none,none,none,none,none] H
 obtain⟨a,dx,lc,lk,cs,rfl,ha,hc,hk,hp⟩:=id hS.sees
 have hrel:=hS.well.rel
 refine⟨_,rfl,a,_,dx,_,_,rfl,ha,T.cW,T.iJ,j7 _ _ _ _ _,lc,_,rfl,.inl (au.of hc),s.relays.length,by rw[bT,List.length_map],by omega,fun L hL=>?_⟩
 have eup:(upto s.relays.length).map V.int=nV (List.range s.relays.length):=nZ _
 rw[eup]
 show RB K A _ [some (.ref a),some (.ref L),none,none,none,none] (upd H L (.lst (nV (List.range s.relays.length))))
 have s0:Same H (upd H L (.lst (nV (List.range s.relays.length)))):=bI hL
 have hL0:(upd H L (.lst (nV (List.range s.relays.length)))) L=some (.lst (nV (List.range s.relays.length))):=aC
 generalize upd H L (.lst (nV (List.range s.relays.length)))=H0 at s0 hL0⊢
 have S0:=hS.same s0
 refine⟨_,rfl,L,rfl,⟨_,au.of hL0⟩,fun Nd mX=>?_⟩
 refine KR (s:=s) (d:=d) (fun _=>true) (fun k=>n+768*k) (fun k=>n+768*k) (fun k y G=>LstAt G y (hangsOn s k)) mX hL0 S0.d8 (fun k x Hc hk nr dr Qt g=>g Hc (Near.refl _ _) dr) (fun k x Hc hk hf nr dr Qe g=>?_) (fun k=>by omega) (fun k y G G' sm hG=>?_) (by rw[bT,List.length_range,sizeLine_eq];omega) fun ys H1 n1 d1 hy pr=>?_
 ·obtain⟨k',hk',rfl⟩:=iM hk
  have hlt:=(List.getElem?_eq_some_iff.mp hk').1
  have:k'=k:=by
   rw[List.getElem?_range (by simpa using hlt)] at hk'
   exact(Option.some.inj hk').symm
  subst this
  rw[List.length_range] at hlt
  exact⟨_,rfl,_,rfl,.ref a,s,k',d,n+768*k',rfl,S0.near nr dr,by omega,hlt,hu,fun w H3 n3 d3 r3=>g _ H3 n3 (d3.le (by omega)) r3⟩
 ·obtain⟨l,e,hl⟩:=hG
  exact⟨l,e,sm _ _ hl⟩
 rw[j6,bT,List.length_range] at pr
 rw[bT,List.length_range] at d1
 have n01:=(Near.of (d:=d) s0).trans n1
 have hLd:L≠d:=fun z=>hS.d8.ne (by rw[←z];exact hL)
 have hL1:=n1.get hLd hL0
 have alT:H Nd=none:=s0.free mX
 show Rz K A _ [some (.ref a),some (.ref L),some (.ref Nd),none,none,none] H1
 refine⟨Nat.zero_le _,fun O hO=>?_⟩
 have s2:Same H1 (upd H1 O (.lst [])):=bI hO
 have oJ:H O=none:=n01.free d1.ne hO
 have CW:L≠O:=bM hL1 hO
 have hNO:Nd≠O:=bM hy hO
 have hNL:Nd≠L:=fun z=>by rw[z,hL0] at mX;cases mX
 show Ry K A _ [some (.ref a),some (.ref L),some (.ref Nd),none,some (.ref O),none] (upd H1 O (.lst []))
 have H1L:∀b,H b=none→hide L (hide O H1) b=hide L (hide O H1) b:=fun _ _=>rfl
 have need:∀(k:Nat),k<s.relays.length→∃w,ys[k]? =some w∧LstAt (nw (upd H0 Nd (.lst [])) H1) w (hangsOn s k):=fun k hk=>by
  obtain⟨w,hw1,hw2⟩:=gH pr (show(List.range s.relays.length)[k]? =some k by rw[List.getElem?_range hk])
  exact⟨w,hw1,hw2⟩
 let G1:Hp:=hide L (hide O H1)
 have CZ:∀{b:Addr} {o:HO},b≠L→b≠O→H1 b=some o→G1 b=some o:=fun h1 h2 e=>cZ h1 (cZ h2 e)
 refine⟨abh a L Nd O s G1 H1,
  ⟨_,[],none,none,rfl,fun b o e=>?_,fun b e=>s2.free e,?_,aC,rfl,?_,?_⟩,?_⟩
 ·obtain⟨h1,h2⟩:=dH e
  obtain⟨h3,h4⟩:=dH h2
  rw[aH h3]
  exact h4
 ·rw[aH CW,MP.Ku]
  exact hL1
 ·rw[order_eq,MP.Ku,List.length_range]
 ·rw[MP.Ku,List.length_range]
  simp
 rintro m σ Hc ⟨l,v3,v5,rfl,sm,fr,hLc,C_,rfl,hord,hlm⟩
 have nrH:∀{b:Addr} {o:HO},b≠d→H b=some o→Hc b=some o:=fun {b o} hb e=>sm _ _ (CZ (bM e hL) (bM e oJ) (n01.get hb e))
 have dc:cD Hc d s (n+9216):=by
  have alv:=hLd
  have hOd:O≠d:=fun z=>d1.ne (by rw[←z];exact hO)
  exact d1.to (fun o e=>sm _ _ (CZ (Ne.symm alv) (Ne.symm hOd) e)) (by omega)
 have near:Near d H Hc:=fun b o e=>by
  obtain⟨h1,h2⟩:=dH e
  exact cZ h1 (nrH h1 h2)
 have hleft:=aeV s.relays.length l
 have vV:Hc Nd=some (.lst ys):=sm _ _ (CZ hNL hNO hy)
 walk_at"rd"
 refine⟨_,.inl (au.of hLc),?_⟩
 rw[bT]
 by_cases c0:(MP.eG s.relays.length l).length=0
 ·rw[if_neg (by rw[c0];simp)]
  show Rx K A _ _ Hc
  refine⟨_,rfl,q _ Hc near dc ?_⟩
  rw[hord,c0]
  exact⟨O,rfl,bO oJ C_⟩
 ·rw[if_pos (by omega)]
  refine⟨fun σ' H'=>∃m',m'<(MP.eG s.relays.length l).length∧abh a L Nd O s G1 H1 m' σ' H',fun _ _ h=>h,?_⟩
  refine⟨_,rfl,L,rfl,⟨_,au.of hLc⟩,fun D hD=>?_⟩
  refine lV (fun j=>(((needs s).getD j []).all fun i=>l.contains i)) (fun x=>V.int ((x:Nat):Int)) hD hLc (fun x hx Hd sd Qt g=>?_) (fun x hx hf Hd sd Qe g=>⟨_,rfl,g⟩) (by omega) fun H3 s3 ql=>?_
  ·have hxl:=aje hx
   obtain⟨w,hw1,lw,rfl,hlw⟩:=need x hxl
   obtain⟨g1,g2⟩:=cu hlw
   have hwL:lw≠L:=fun z=>by rw[z,aH (Ne.symm hNL),hL0] at g1;cases g1
   have hwO:lw≠O:=bM g2 hO
   have hlen:(hangsOn s x).length≤1000:=by
    rw[←MP.Lk hxl]
    exact Nat.le_trans (List.length_filter_le _ _) (Nat.le_trans (MP.JK s) (by omega))
   refine⟨_,rfl,_,rfl,Nd,ys,(x:Int),.ref lw,rfl,rfl,au.of (sd _ _ vV),j9 hw1,_,rfl,lw,O,hangsOn s x,l,rfl,sd _ _ (sm _ _ (CZ hwL hwO g2)),sd _ _ C_,hlen,fun w H4 s4 e4=>⟨_,e4,?_⟩⟩
   have:(needs s).getD x []=hangsOn s x:=by
    unfold needs
    rw[getD_some (show((List.range s.relays.length).map (hangsOn s))[x]? =some (hangsOn s x) by rw[List.getElem?_map,List.getElem?_range hxl];rfl)]
   rw[this] at g
   exact g H4 s4
  ·rw[←pD,List.map_id'] at ql
   show FQ K A _ [some (.ref a),some (.ref L),some (.ref Nd),v3,some (.ref O),some (.ref D)] H3
   obtain⟨m',hm'⟩:∃m',(MP.eG s.relays.length l).length=m'+1:=⟨(MP.eG s.relays.length l).length - 1,by omega⟩
   have hnl:(needs s).length=s.relays.length:=by unfold needs;rw[List.length_map,List.length_range]
   have hst:=MP.aft (needs s) m' l
   rw[hnl] at hst
   rw[hm',hst] at hord
   have D1:H1 D=none:=fr D hD
   have Bh:Near d H H3:=near.trans (Near.of s3)
   have dc3:=dc.same s3
   unfold FQ Rw Rv
   walk_at"rd"
   refine⟨_,.inl (au.of ql),?_⟩
   rw[bT]
   cases hfree:(MP.eG s.relays.length l).filter fun j=>(((needs s).getD j []).all fun i=>l.contains i) with
   |nil=>
    rw[hfree] at hord
    rw[if_pos (by simp)]
    refine q _ H3 Bh dc3 ?_
    rw[hord]
    rfl
   |cons j r=>
    rw[hfree] at hord ql
    rw[if_neg (by simp;omega)]
    have hj:j∈MP.eG s.relays.length l:=(List.mem_filter.mp (by rw[hfree];exact List.mem_cons_self ..)).1
    have hO3:=s3 _ _ C_
    have CJ:=s3 _ _ hLc
    have hDO:D≠O:=fun z=>by rw[z,C_] at hD;cases hD
    have hDL:D≠L:=fun z=>by rw[z,hLc] at hD;cases hD
    refine⟨.inl ⟨_,au.of hO3⟩,_,au.of ql,.int (j:Int),at0 _ _,_,hO3,by rw[bT,sizeLine_eq];omega,.inl ⟨_,au.of (by rw[aH CW];exact CJ)⟩,_,au.of (by rw[aH hDO];exact ql),.int (j:Int),at0 _ _,?_⟩
    have hoff:∀{b:Addr} {o:HO},G1 b=some o→b≠L∧b≠O∧H1 b=some o:=fun e=>⟨(dH e).1,(dH (dH e).2).1,(dH (dH e).2).2⟩
    refine⟨(MP.eG s.relays.length l).map fun(n:Nat)=>(n:Int),(j:Int),rfl,by rw[aH CW,nZ];exact CJ,List.mem_map.mpr ⟨j,hj,rfl⟩,m',by omega,l++[j],_,_,rfl,fun b o e=>?_,fun b e=>?_,?_,?_,?_,?_,?_⟩
    ·obtain⟨h1,h2,h3⟩:=hoff e
     rw[aH h1,aH h2]
     exact s3 _ _ (sm _ _ e)
    ·have h1:b≠L:=fun z=>by rw[z,aC] at e;cases e
     rw[aH h1] at e
     have h2:b≠O:=fun z=>by rw[z,aC] at e;cases e
     rw[aH h2] at e
     exact fr b (s3.free e)
    ·rw[aC,ag4,nZ,MP.V0 hj]
    ·rw[aH (Ne.symm CW),aC,jh]
     rfl
    ·rw[←MP.V0 hj,List.length_erase_of_mem hj]
     omega
    ·exact hord
    ·rw[List.length_append]
     simp only[List.length_cons,List.length_nil]
     omega
end
open Rung (pass moves unsure whyNot allStates hangsOn)
theorem afZ{ks:List Nat}{k:Nat}(h:k∈ks):putK (cN ks) (Sum.inl (k:Int)) (.bl true)=cN ks:=by
 unfold putK
 have e:((cN ks).any fun kv=>decide (kv.1=(Sum.inl (k:Int):Key)))=true:=by
  rw[nq]
  exact(zH ks k).mpr h
 rw[if_pos e]
 conv=>rhs;rw[←List.map_id (cN ks)]
 refine List.map_congr_left fun kv hkv=>?_
 unfold cN at hkv
 obtain⟨j,_,rfl⟩:=List.mem_map.mp hkv
 dsimp only
 split<;>rfl
def mY(a:List Nat):List Nat→List Nat
 | []=>a
 |k::r=>mY (if k∈a then a else a++[k]) r
theorem Nb:∀(b a:List Nat),kE (cN a) (cN b)=cN (mY a b)
 | [],a=>rfl
 |k::r,a=>by
  show kE (putK (cN a) (Sum.inl (k:Int)) (.bl true)) (cN r)=_
  unfold mY
  by_cases h:k∈a
  ·rw[afZ h,if_pos h]
   exact Nb r a
  ·rw[ZG h,if_neg h]
   exact Nb r (a++[k])
theorem ZP:∀(b a:List Nat) (x:Nat),x∈mY a b↔x∈a∨x∈b
 | [],a,x=>by simp[mY]
 |k::r,a,x=>by
  unfold mY
  rw[ZP r]
  by_cases h:k∈a
  ·rw[if_pos h,List.mem_cons]
   constructor
   ·rintro(z|z)
    ·exact .inl z
    ·exact .inr (.inr z)
   ·rintro(z|rfl|z)
    ·exact .inl z
    ·exact .inl h
    ·exact .inr z
  ·rw[if_neg h,List.mem_append,List.mem_singleton,List.mem_cons]
   constructor
   ·rintro((z|z)|z)
    ·exact .inl z
    ·exact .inr (.inl z)
    ·exact .inr (.inr z)
   ·rintro(z|z|z)
    ·exact .inl (.inl z)
    ·exact .inl (.inr z)
    ·exact .inr z
theorem Nf:∀(b a:List Nat),a.Nodup→(mY a b).Nodup
 | [],a,h=>h
 |k::r,a,h=>by
  unfold mY
  by_cases hk:k∈a
  ·rw[if_pos hk]
   exact Nf r a h
  ·rw[if_neg hk]
   exact Nf r _ (zT h hk)
theorem Mj(ks:List Nat):(cN ks).length=ks.length:=by unfold cN;rw[List.length_map]
theorem af0{s:Rung.Scheme}{x y:Nat}(h:MP.pC s x y):MP.Agree s.relays.length x y:=by
 obtain⟨_,k,hk⟩:=h
 exact hk.agree
theorem XH{s:Rung.Scheme}{x:Nat}{ks:List Nat}(nd:ks.Nodup)(h:∀y∈ks,MP.pC s x y)(hr:s.relays.length≤5):ks.length≤32:=by
 have:=MP.rD nd fun y hy=>af0 (h y hy)
 exact Nat.le_trans this (Nat.pow_le_pow_right (n:=2) (by decide) hr)
theorem ah8(s:Rung.Scheme)(x:Nat):MP.jz (MP.kZ s x) 32≤s.relays.length:=by
 refine Nat.le_trans (MP.uG (l:=(List.range s.relays.length).map (16+ ·)) fun v hv=>?_) (by rw[List.length_map,List.length_range];exact Nat.le_refl _)
 obtain⟨h1,h2⟩:=(MP.uz s x v).mp hv
 exact List.mem_map.mpr ⟨v - 16,List.mem_range.mpr (MP.tM h2),by omega⟩
section
variable{K:PySem.W.Frag}{mg:Str→Option Value}{A:Ad}
theorem abG(T:Tx K mg A)(vs:List V)(H:Hp)(Q:VK)(E:XK)(h:Ds A vs H Q E):Du K A {nx:=fun _ H'=>Q .non H',rt:=Q} (L2.start ["scheme","state","unsettled","turned"] vs) H:=by
 obtain⟨v,s,x,d,n,rfl,hS,hn,q⟩:=h
 show Du K A _ [some v,some (.int (x:Int)),none,none] H
 have hw:=hS.well
 refine⟨_,rfl,_,rfl,v,s,x,d,n,rfl,hS,by omega,fun w H1 n1 d1 e1=>?_⟩
 subst e1
 have S1:=hS.near n1 d1
 obtain⟨a,dx,lc,lk,cs,rfl,ha,hc,hk,hp⟩:=id S1.sees
 refine⟨_,rfl,_,_,rfl,rfl,_,rfl,a,_,dx,_,_,rfl,ha,T.cW,T.tu,agU _ _ _ _ _,_,_,rfl,rfl,?_⟩
 have eu:Builtin.bitAnd (Builtin.bitXor ((MP.dX s x:Nat):Int) (x:Int)) ((n_ s.relays.length:Nat):Int)=((MP.kZ s x:Nat):Int):=by
  rw[Ax,uP]
  rfl
 show Ph K A _ [some (.ref a),some (.int (x:Int)),some (.int (Builtin.bitAnd (Builtin.bitXor ((MP.dX s x:Nat):Int) (x:Int)) ((n_ s.relays.length:Nat):Int))),none] H1
 rw[eu]
 have hlt:=MP.Lp hw.rel x
 have hlt2:MP.kZ s x<2^32:=Nat.lt_trans hlt (by decide)
 have alU:=ah8 s x
 have hrel:=hw.rel
 refine⟨_,rfl,MP.kZ s x,rfl,hlt2,by omega,fun w H2 s2 ⟨l,e2,hl⟩=>?_⟩
 subst e2
 have hl2:=bW _ _ _ _ hl
 have hpl:=Wi (b:=MP.kZ s x) (by omega) 32 (Nat.le_refl _)
 refine⟨l,rfl,⟨_,au.of hl2⟩,fun D hD=>?_⟩
 refine lV (fun t=>decide (t≠0)) (fun t=>V.int ((x^^^t:Nat):Int)) hD hl2 (fun t ht Hc sm Qt g=>?_) (fun t ht hf Hc sm Qe g=>?_) (by omega) fun H3 s3 hy=>?_
 ·refine⟨_,rfl,rfl,_,rfl,?_⟩
  have e:(!decide (V.int (t:Int)=V.int 0))=decide (t≠0):=by
   rw[Bool.eq_iff_iff]
   simp only[Bool.not_eq_true',decide_eq_false_iff_not,decide_eq_true_eq,V.int.injEq,ne_eq]
   omega
  rw[e]
  exact g Hc (Same.refl _)
 ·refine⟨_,rfl,_,rfl,_,_,rfl,rfl,?_⟩
  show Qe (.int (Builtin.bitXor (x:Int) (t:Int))) Hc
  rw[Ax]
  exact g
 ·have jZ:=s2.trans s3
  have hD1:H1 D=none:=s2.free hD
  refine q _ H3 (n1.trans (Near.of jZ)) (d1.same jZ) ⟨D,rfl,bO (n1.free d1.ne hD1) ?_⟩
  rw[hy,←pD,aap hlt2 hlt]
  rfl
theorem aeW(T:Tx K mg A)(vs:List V)(H:Hp)(Q:VK)(E:XK)(h:HN vs H Q E):HS K A {nx:=fun _ H'=>Q .non H',rt:=Q} (L2.start ["states","rests","state"] vs) H:=by
 obtain⟨a,r,xs,kvs,rfl,ha,hr,hl,q⟩:=h
 show HS K A _ [some (.ref a),some (.ref r),none] H
 refine⟨_,rfl,a,rfl,⟨_,au.of ha⟩,fun D hD=>?_⟩
 refine lV (fun _=>true) (fun x=>V.bl (aQ kvs (Sum.inl (x:Int))).isSome) hD ha (fun x hx Hc sm Qt h=>h Hc (Same.refl _)) (fun x hx hf Hc sm Qe h=>?_) (by omega) fun H1 s1 hy=>?_
 ·exact⟨_,rfl,_,rfl,r,_,rfl,dG.k (k:=Sum.inl (x:Int)) (sm _ _ hr),h⟩
 ·rw[j6] at hy
  refine⟨D,xs.map fun(x:Nat)=>(aQ kvs (Sum.inl (x:Int))).isSome,rfl,au.of (by rw[hy,List.map_map];rfl),q _ H1 s1 ?_⟩
  rw[List.all_map]
  rfl
def akR(x:Nat)(a r F:Addr)(s:Rung.Scheme)(xs:List Nat)(H:Hp):Nat→L2.St→Hp→Prop:=fun i σ Hc=>∃(v4:Option V) (ks:List Nat),σ=[some (.int (x:Int)),some (.ref a),some (.ref r),some (.ref F),v4]∧Same H Hc∧Hc F=some (.dK (cN ks))∧ks.Nodup∧(∀y,y∈ks↔∃m z,m<i∧xs[m]? =some z∧MP.pC s z y)
theorem acJ(T:Tx K mg A)(vs:List V)(H:Hp)(Q:VK)(E:XK)(h:Fg A vs H Q E):wO K A {nx:=fun _ H'=>Q .non H',rt:=Q} (L2.start ["state","behind","rests","found","other"] vs) H:=by
 obtain⟨x,a,r,xs,kvs,s,rfl,ha,hr,hR,mZ,hxl,hrel,hkn,q⟩:=h
 show wO K A _ [some (.int (x:Int)),some (.ref a),some (.ref r),none,none] H
 unfold wO
 walk_at"rd"
 refine⟨_,.inl (au.of ha),?_⟩
 rw[bT]
 have hnil:xs=[]↔Rung.rest s x=true:=by
  rw[MP.Jd]
  constructor
  ·intro e
   refine List.eq_nil_iff_forall_not_mem.mpr fun y hy=>?_
   have:=(mZ y).mpr hy
   rw[e] at this
   cases this
  ·intro e
   refine List.eq_nil_iff_forall_not_mem.mpr fun y hy=>?_
   have:=(mZ y).mp hy
   rw[e] at this
   cases this
 have aaq:∀y∈moves s x,¬MP.Ring s y:=fun y hy=>by
  have hy':=(mZ y).mpr hy
  cases e:aQ kvs (Sum.inl (y:Int)) with
  |none=>exact absurd e (hkn y hy')
  |some v=>
   obtain⟨_,ks,_,_,hk⟩:=hR y v e
   exact hk.1
 by_cases c:xs=[]
 ·rw[if_pos (by rw[c];simp)]
  intro p hp
  refine⟨_,rfl,aC,[(Sum.inl (x:Int),.bl true)],rfl,by show 1≤15;decide,?_⟩
  rw[g8,show kE [] [((Sum.inl (x:Int):Key),V.bl true)]=cN [x] from rfl]
  refine q _ _ (bI hp) ⟨p,[x],rfl,bO hp aC,MP.Xa aaq,by simp,fun y=>?_⟩
  rw[MP.afu (hnil.mp c)]
  simp
 ·have hpos:xs.length≠0:=fun z=>c (List.length_eq_zero_iff.mp z)
  rw[if_neg (by omega)]
  intro F hF
  show Qw K A _ [some (.int (x:Int)),some (.ref a),some (.ref r),some (.ref F),none] (upd H F (.dK []))
  refine⟨_,rfl,a,rfl,⟨_,au.of (bI hF _ _ ha)⟩,lE (xs:=nV xs) (akR x a r F s xs H) ⟨none,[],rfl,bI hF,aC,by simp,fun y=>?_⟩ (fun i σ H' _ ⟨_,_,_,s',_⟩=>au.of (s' _ _ ha)) ?_ ?_⟩
  ·simp only[List.not_mem_nil,false_iff]
   rintro⟨m,z,hm,_⟩
   exact absurd hm (Nat.not_lt_zero m)
  ·rintro i y σ Hc hi ⟨v4,ks,rfl,sm,Dc,nd,hmem⟩
   obtain⟨z,hz,rfl⟩:=iM hi
   have hzm:=List.mem_of_getElem? hz
   cases e:aQ kvs (Sum.inl (z:Int)) with
   |none=>exact absurd e (hkn z hzm)
   |some u=>
   obtain⟨e',ks',rfl,he',hk1,hk2,hk3⟩:=hR z u e
   have hFe:F≠e':=fun w=>by rw[w,he'] at hF;cases hF
   have hg:=dG.k (k:=Sum.inl (z:Int)) (sm _ _ hr)
   rw[e] at hg
   have l1:ks.length≤32:=XH nd (fun y hy=>by
    obtain⟨m,z',_,hz',hr'⟩:=(hmem y).mp hy
    have hst:Rung.rest s x=false:=by
     cases w:Rung.rest s x with
     |false=>rfl
     |true=>exact absurd (hnil.mpr w) c
    exact(MP.Vf hst y).mpr ⟨z',(mZ z').mp (List.mem_of_getElem? hz'),hr'⟩) hrel
   have l2:ks'.length≤32:=XH hk2 (fun y hy=>(hk3 y).mp hy) hrel
   refine⟨_,rfl,.inr (.inr (.inl ⟨rfl,.inl ⟨_,Dc⟩⟩)),_,rfl,_,rfl,r,_,rfl,hg,F,e',_,_,rfl,rfl,Dc,sm _ _ he',hFe,by rw[Mj,Mj,sizeLine_eq];omega,?_⟩
   rw[Nb]
   refine⟨_,mY ks ks',rfl,cC sm hF,aC,Nf _ _ nd,fun y=>?_⟩
   rw[ZP,hmem,hk3]
   constructor
   ·rintro(⟨m,z',hm,hz',hr'⟩|w)
    ·exact⟨m,z',by omega,hz',hr'⟩
    ·exact⟨i,z,by omega,hz,w⟩
   ·rintro⟨m,z',hm,hz',hr'⟩
    by_cases em:m=i
    ·subst em
     rw[hz] at hz'
     cases hz'
     exact .inr hr'
    ·exact .inl ⟨m,z',by omega,hz',hr'⟩
  ·rintro σ Hc ⟨v4,ks,rfl,sm,Dc,nd,hmem⟩
   rw[bT] at hmem
   have hst:Rung.rest s x=false:=by
    cases w:Rung.rest s x with
    |false=>rfl
    |true=>exact absurd (hnil.mpr w) c
   refine⟨_,rfl,q _ Hc sm ⟨F,ks,rfl,bO hF Dc,MP.Xa aaq,nd,fun y=>?_⟩⟩
   rw[hmem,MP.Vf hst]
   constructor
   ·rintro⟨m,z',hm,hz',hr'⟩
    exact⟨z',(mZ z').mp (List.mem_of_getElem? hz'),hr'⟩
   ·rintro⟨z',hz',hr'⟩
    obtain⟨m,hm⟩:=List.mem_iff_getElem?.mp ((mZ z').mpr hz')
    exact⟨m,z',(List.getElem?_eq_some_iff.mp hm).1,hm,hr'⟩
theorem ac7(T:Tx K mg A)(vs:List V)(H:Hp)(Q:VK)(E:XK)(h:FN vs H Q E):xG K A {nx:=fun _ H'=>Q .non H',rt:=Q} (L2.start ["state","rests"] vs) H:=by
 obtain⟨x,r,kvs,s,rfl,hr,hR,Nu,q⟩:=h
 show xG K A _ [some (.int (x:Int)),some (.ref r)] H
 unfold xG QS
 walk_at"rd"
 refine⟨_,dG.k (k:=Sum.inl (x:Int)) hr,?_⟩
 cases e:aQ kvs (Sum.inl (x:Int)) with
 |none=>
  rw[if_pos (by simp)]
  rw[MP.ahy (Nu e)] at q
  exact q
 |some u=>
  rw[if_neg (by simp)]
  obtain⟨e',ks,rfl,he,hk⟩:=hR x u e
  have hg:=dG.k (k:=Sum.inl (x:Int)) hr
  rw[e] at hg
  rw[MP.agA hk] at q
  refine⟨_,hg,e',rfl,_,he,?_⟩
  rw[Mj]
  by_cases c:1<ks.length
  ·rw[if_pos (by omega)]
   rw[if_pos c] at q
   exact q
  ·rw[if_neg (by omega)]
   rw[if_neg c] at q
   exact q
end
open Rung (pass moves unsure whyNot allStates hangsOn)
def BAt(G:Hp)(kvs:List (Key×V))(s:Rung.Scheme)(xs:List Nat):Prop:=∀x∈xs,∃l,aQ kvs (Sum.inl (x:Int))=some (.ref l)∧G l=some (.lst (nV (MP.eZ s x)))
def akS(v:V)(Wa Bd d:Addr)(s:Rung.Scheme)(n:Nat)(xs:List Nat)(H:Hp):Nat→L2.St→Hp→Prop:=fun i σ Hc=>∃(v3:Option V) (kvs:List (Key×V)),σ=[some v,some (.ref Wa),some (.ref Bd),v3,none,none]∧Near d H Hc∧Hc Wa=some (.lst (nV xs))∧cD Hc d s (n+i)∧Hc Bd=some (.dK kvs)∧kvs.length≤i∧BAt (nw H Hc) kvs s (xs.take i)
def aaN(v:V)(Bd Rd:Addr)(s:Rung.Scheme)(H H2:Hp):Nat→L2.St→Hp→Prop:=fun m σ Hc=>∃(Wa:Addr) (ws:List Nat) (kvs:List (Key×V)) (v3 v5:Option V),σ=[some v,some (.ref Wa),some (.ref Bd),v3,some (.ref Rd),v5]∧Same (hide Rd H2) Hc∧(∀b,Hc b=none→H2 b=none)∧Hc Wa=some (.lst (nV ws))∧Hc Rd=some (.dK kvs)∧
 qj (hide Rd (nw H Hc)) kvs s∧(∀x,x∈ws↔x∈allStates s∧aQ kvs (Sum.inl (x:Int))=none)∧ws.Nodup∧m=ws.length∧kvs.length+m≤256
def ajf(v:V)(Wa Bd Rd Ya:Addr)(s:Rung.Scheme)(ys:List Nat)(kvs:List (Key×V))(H H3:Hp):Nat→L2.St→Hp→Prop:=fun i σ Hc=>∃(v3:Option V) (gb:List (Key×V)),σ=[some v,some (.ref Wa),some (.ref Bd),v3,some (.ref Rd),some (.ref Ya)]∧Same (hide Rd H3) Hc∧(∀b,Hc b=none→H3 b=none)∧Hc Rd=some (.dK gb)∧qj (hide Rd (nw H Hc)) gb s∧gb.length≤kvs.length+i∧
 (∀x:Nat,aQ gb (Sum.inl (x:Int))≠none↔aQ kvs (Sum.inl (x:Int))≠none∨x∈ys.take i)
theorem YX{s:Rung.Scheme}(hw:iV s)(h:s.inputs.length+s.relays.length≤8):MP.jz (MB.maskOf s) 32≤12:=by
 refine Nat.le_trans (MP.uG (l:=List.range s.inputs.length++(List.range s.relays.length).map (16+ ·)) fun v hv=>?_) (by rw[List.length_append,List.length_map,List.length_range,List.length_range];omega)
 rw[MP.Jh] at hv
 have hv:=(Bool.and_eq_true_iff.mp hv).2
 unfold Rung.Scheme.hasVar at hv
 rw[Bool.or_eq_true,Bool.and_eq_true,decide_eq_true_eq,decide_eq_true_eq,decide_eq_true_eq] at hv
 rw[List.mem_append]
 rcases hv with z|⟨z1,z2⟩
 ·exact .inl (List.mem_range.mpr z)
 ·exact .inr (List.mem_map.mpr ⟨v - 16,List.mem_range.mpr z2,by omega⟩)
theorem af2{s:Rung.Scheme}(h:s.inputs.length+s.relays.length≤8):(allStates s).length≤256:=by
 rw[MP.adt]
 exact Nat.pow_le_pow_right (n:=2) (by decide) h
theorem Ut{α:Type}(p:α→Bool):∀l:List α,(l.filter p).length+(l.filter fun x=> !p x).length=l.length
 | []=>rfl
 |a::r=>by
  have ih:=Ut p r
  rw[List.filter_cons,List.filter_cons]
  cases p a<;>simp<;>omega
section
variable{K:PySem.W.Frag}{mg:Str→Option Value}{A:Ad}
theorem acn(T:Tx K mg A)(vs:List V)(H:Hp)(Q:VK)(E:XK)(h:Em A vs H Q E):Ep K A {nx:=fun _ H'=>Q .non H',rt:=Q} (L2.start ["scheme","waiting","behind","state","rests","ready"] vs) H:=by
 obtain⟨v,s,d,n,rfl,hS,hn,oK,h8,q⟩:=h
 show Ep K A _ [some v,none,none,none,none,none] H
 have hw:=hS.well
 obtain⟨a,dx,lc,lk,cs,rfl,ha,hc,hk,hp⟩:=id hS.sees
 have hsl:=af2 h8
 refine⟨_,rfl,a,_,dx,_,_,rfl,ha,T.cW,T.qy,KQ _ _ _ _ _,rR s.inputs.length s.relays.length,rfl,by rw[oY hw];exact MB.JG s,by rw[oY hw];exact YX hw h8,fun w H1 s1 ⟨Wa,e1,Oz⟩=>?_⟩
 subst e1
 rw[oY hw,MP.V1 hw.ins hw.rel] at Oz
 have Ob:=bW _ _ _ _ Oz
 have S1:=hS.same s1
 have hdn:=hS.d8.ne
 show Qn K A _ [some (.ref a),some (.ref Wa),none,none,none,none] H1
 intro Bd OD
 have abj:H Bd=none:=s1.free OD
 have abk:Bd≠d:=fun z=>hdn (by rw[←z];exact abj)
 have hWd:Wa≠d:=fun z=>hdn (by rw[←z];exact(cu Oz).1)
 have hWB:Wa≠Bd:=bM Ob OD
 show Qm K A _ [some (.ref a),some (.ref Wa),some (.ref Bd),none,none,none] (upd H1 Bd (.dK []))
 have Dd:Same H1 (upd H1 Bd (.dK [])):=bI OD
 have abl:(upd H1 Bd (.dK [])) Bd=some (.dK []):=aC
 generalize upd H1 Bd (.dK [])=H1b at Dd abl⊢
 have abm:=s1.trans Dd
 refine⟨_,rfl,Wa,rfl,⟨_,au.of (Dd _ _ Ob)⟩,lE (xs:=nV (allStates s)) (akS (.ref a) Wa Bd d s n (allStates s) H) ⟨none,[],rfl,Near.of abm,Dd _ _ Ob,hS.d8.same abm,abl,Nat.le_refl _,fun x hx=>by simp at hx⟩ (fun i σ H' _ ⟨_,_,_,_,hW,_⟩=>au.of hW) ?_ ?_⟩
 ·rintro i y σ Hc hi ⟨v3,kvs,rfl,nr,OJ,dr,sV,hkl,hB⟩
  obtain⟨x,hx,rfl⟩:=iM hi
  have hil:=(List.getElem?_eq_some_iff.mp hx).1
  refine⟨_,rfl,_,rfl,.ref a,s,x,d,n+i,rfl,hS.near nr dr,by omega,fun w H3 n3 d3 ⟨l,e3,hl⟩=>?_⟩
  subst e3
  obtain⟨hl0,hl3⟩:=cu hl
  have hB3:=n3.get abk sV
  refine⟨_,rfl,_,rfl,Bd,_,rfl,jx.k (k:=Sum.inl (x:Int)) hB3 (by rw[sizeLine_eq];omega),?_⟩
  have hlB:l≠Bd:=fun z=>by rw[z,sV] at hl0;cases hl0
  have hlH:H l=none:=nr.free dr.ne hl0
  refine⟨_,_,rfl,(nr.trans n3).upd abj,by rw[aH hWB];exact n3.get hWd OJ,d3.put abk,aC,Nat.le_trans (LC _ _ _) (by omega),fun z hz=>?_⟩
  by_cases ez:z=x
  ·subst ez
   exact⟨l,by rw[nu,if_pos rfl],bO hlH (by rw[aH hlB];exact hl3)⟩
  ·rw[take_snoc hx,List.mem_append,List.mem_singleton] at hz
   obtain⟨l',h1,h2⟩:=hB z (hz.elim id fun e=>absurd e ez)
   obtain⟨h3,h4⟩:=cu h2
   have vU:l'≠d:=fun w=>hdn (by rw[←w];exact h3)
   have alw:l'≠Bd:=fun w=>by rw[w,sV] at h4;cases h4
   refine⟨l',?_,bO h3 (by rw[aH alw];exact n3.get vU h4)⟩
   rw[nu,if_neg (fun w=>ez (by have:=Sum.inl.inj w;omega))]
   exact h1
 ·rintro σ Hc ⟨v3,kvs,rfl,nr,OJ,dr,sV,hkl,hB⟩
  rw[bT,List.take_length] at hB
  rw[bT] at dr
  show Ql K A _ [some (.ref a),some (.ref Wa),some (.ref Bd),v3,none,none] Hc
  intro Rd m5
  have abn:H Rd=none:=nr.free dr.ne m5
  have alx:Rd≠d:=fun z=>dr.ne (by rw[←z];exact m5)
  have s2:Same Hc (upd Hc Rd (.dK [])):=bI m5
  have jg:(upd Hc Rd (.dK [])) Rd=some (.dK []):=aC
  show Qk K A _ [some (.ref a),some (.ref Wa),some (.ref Bd),v3,some (.ref Rd),none] (upd Hc Rd (.dK []))
  generalize upd Hc Rd (.dK [])=H2 at s2 jg⊢
  have sW:Near d H H2:=nr.trans (Near.of s2)
  have Dg:=dr.same s2
  have hB2:BAt (nw H H2) kvs s (allStates s):=fun x hx=>by
   obtain⟨l,h1,h2⟩:=hB x hx
   exact⟨l,h1,qX s2 _ _ h2⟩
  have O1:Bd≠Rd:=bM sV m5
  have aly:=s2 _ _ sV
  have hnd:=MP.yd (MP.VR (s:=s) hw.ins)
  refine⟨aaN (.ref a) Bd Rd s H H2,⟨_,Wa,allStates s,[],v3,none,rfl,nG _ _,fun b e=>e,s2 _ _ OJ,jg,(fun x v hx=>by cases hx),fun x=>⟨fun hx=>⟨hx,rfl⟩,fun hx=>hx.1⟩,hnd,rfl,by simp only[List.length_nil];omega⟩,?_⟩
  rintro m σ H3 ⟨Wa,ws,kv,v3,v5,rfl,sm,fr,vW,Dh,hR,hws,hwn,rfl,alV⟩
  have hB3:=sm _ _ (cZ O1 aly)
  have beh:∀x∈allStates s,∃l,aQ kvs (Sum.inl (x:Int))=some (.ref l)∧l≠Rd∧H l=none∧H3 l=some (.lst (nV (MP.eZ s x))):=fun x hx=>by
   obtain⟨l,h1,h2⟩:=hB2 x hx
   obtain⟨h3,h4⟩:=cu h2
   have hlR:l≠Rd:=fun w=>by rw[w,jg] at h4;cases h4
   exact⟨l,h1,hlR,h3,sm _ _ (cZ hlR h4)⟩
  have Bh:Near d H H3:=fun b o e=>by
   obtain⟨h1,h2⟩:=dH e
   exact cZ h1 (sm _ _ (cZ (bM h2 abn) (sW.get h1 h2)))
  have dr3:cD H3 d s (n+256):=Dg.to (fun o e=>sm _ _ (cZ (Ne.symm alx) e)) (by omega)
  walk_at"rd"
  refine⟨fun σ' H'=>∃m',m'<ws.length∧aaN (.ref a) Bd Rd s H H2 m' σ' H',fun _ _ h=>h,?_⟩
  refine⟨_,rfl,Wa,rfl,⟨_,au.of vW⟩,fun Ya O2=>?_⟩
  have hlb:∀x,(MP.eZ s x).length≤32:=fun x=>Nat.le_trans (MP.ahz (s:=s) x) (Nat.pow_le_pow_right (n:=2) (by decide) oK)
  have alP:ws.length≤256:=by omega
  refine lV (fun x=>((MP.eZ s x).all fun(y:Nat)=>(aQ kv (Sum.inl (y:Int))).isSome)) (fun x=>V.int ((x:Nat):Int)) O2 vW (fun x hx Hd sd Qt g=>?_) (fun x hx hf Hd sd Qe g=>⟨_,rfl,g⟩) (by omega) fun H4 s4 vX=>?_
  ·obtain⟨l,h1,h2,h3,h4⟩:=beh x ((hws x).mp hx).1
   have hg:=dG.k (k:=Sum.inl (x:Int)) (sd _ _ hB3)
   rw[h1] at hg
   exact⟨_,rfl,_,rfl,Bd,_,rfl,hg,_,rfl,l,Rd,MP.eZ s x,kv,rfl,sd _ _ h4,sd _ _ Dh,by have:=hlb x;omega,fun w H5 s5 e5=>⟨_,e5,g H5 s5⟩⟩
  ·rw[←pD,List.map_id'] at vX
   show Ed K A _ [some (.ref a),some (.ref Wa),some (.ref Bd),v3,some (.ref Rd),some (.ref Ya)] H4
   have vY:=s4 _ _ Dh
   have abo:qj (hide Rd (nw H H4)) kv s:=fun x v hx=>by
    obtain⟨e,ks,h1,h2,h3⟩:=hR x v hx
    exact⟨e,ks,h1,zp (qX s4) _ _ h2,h3⟩
   generalize hys:ws.filter (fun x=>((MP.eZ s x).all fun(y:Nat)=>(aQ kv (Sum.inl (y:Int))).isSome))=ys at vX
   have hyw:∀x∈ys,x∈ws:=fun x hx=>by rw[←hys] at hx;exact(List.mem_filter.mp hx).1
   unfold Ed
   walk_at"rd"
   refine⟨_,.inl (au.of vX),?_⟩
   rw[bT]
   by_cases cy:ys=[]
   ·rw[if_pos (by rw[cy];rfl)]
    refine q _ H4 (Bh.trans (Near.of s4)) (dr3.same s4) ⟨Rd,kv,rfl,bO abn vY,(fun x v hx=>by
     obtain⟨e,ks,h1,h2,h3⟩:=abo x v hx
     exact⟨e,ks,h1,nG _ _ _ _ h2,h3⟩),fun x hx hnone=>MP.agz (W:=fun x=>x∈ws) (fun z hz=>?_) ((hws x).mpr ⟨hx,hnone⟩)⟩
    have hz2:¬((MP.eZ s z).all fun(y:Nat)=>(aQ kv (Sum.inl (y:Int))).isSome)=true:=fun w=>by
     have:z∈ys:=by rw[←hys];exact List.mem_filter.mpr ⟨hz,w⟩
     rw[cy] at this
     cases this
    rw[List.all_eq_true] at hz2
    have:∃y,y∈MP.eZ s z∧aQ kv (Sum.inl (y:Int))=none:=by
     refine Classical.byContradiction fun hno=>hz2 fun y hy=>?_
     cases e:aQ kv (Sum.inl (y:Int)) with
     |none=>exact absurd ⟨y,hy,e⟩ hno
     |some u=>rfl
    obtain⟨y,hy1,hy2⟩:=this
    have mZ:=(MP.Ys hw.rel z y).mp hy1
    exact⟨y,mZ,(hws y).mpr ⟨MP.adS hw.ins ((hws z).mp hz).1 mZ,hy2⟩⟩
   ·have hpos:ys.length≠0:=fun z=>cy (List.length_eq_zero_iff.mp z)
    rw[if_neg (by omega)]
    show Qj K A _ [some (.ref a),some (.ref Wa),some (.ref Bd),v3,some (.ref Rd),some (.ref Ya)] H4
    have hYR:Ya≠Rd:=fun z=>by rw[z,Dh] at O2;cases O2
    have hWR:Wa≠Rd:=fun z=>by rw[z,Dh] at vW;cases vW
    have hyl:ys.length≤ws.length:=by rw[←hys];exact List.length_filter_le _ _
    refine⟨_,rfl,Ya,rfl,⟨_,au.of vX⟩,lE (xs:=nV ys) (ajf (.ref a) Wa Bd Rd Ya s ys kv H H4) ⟨v3,kv,rfl,nG _ _,fun b e=>e,vY,abo,by omega,fun x=>by simp⟩ (fun i σ H' _ ⟨_,_,_,s',_⟩=>au.of (s' _ _ (cZ hYR vX))) ?_ ?_⟩
    ·rintro i y σ H5 hi ⟨v3,gb,rfl,s5,sO,sX,BW,hl5,sY⟩
     obtain⟨x,hx,rfl⟩:=iM hi
     have hxy:=List.mem_of_getElem? hx
     have hil:=(List.getElem?_eq_some_iff.mp hx).1
     obtain⟨l,h1,h2,h3,h4⟩:=beh x ((hws x).mp (hyw x hxy)).1
     have hB5:=s5 _ _ (cZ O1 (s4 _ _ hB3))
     have hg:=dG.k (k:=Sum.inl (x:Int)) hB5
     rw[h1] at hg
     have known:∀y∈MP.eZ s x,aQ gb (Sum.inl (y:Int))≠none:=fun y hy=>by
      refine(sY y).mpr (.inl ?_)
      rw[←hys] at hxy
      have:=List.all_eq_true.mp (List.mem_filter.mp hxy).2 y hy
      intro z
      rw[z] at this
      cases this
     refine⟨_,rfl,_,rfl,_,rfl,Bd,_,rfl,hg,_,rfl,x,l,Rd,MP.eZ s x,gb,s,rfl,s5 _ _ (cZ h2 (s4 _ _ h4)),sX,(fun x v hx=>by
      obtain⟨e,ks,g1,g2,g3⟩:=BW x v hx
      exact⟨e,ks,g1,bW _ _ _ _ (nG _ _ _ _ g2),g3⟩),fun y=>MP.Ys hw.rel x y,hlb x,oK,known,fun w H6 s6 ⟨e6,ks6,ew,he6,hk6⟩=>?_⟩
     subst ew
     obtain⟨Oc,alz⟩:=cu he6
     have heR:e6≠Rd:=fun z=>by rw[z,sX] at Oc;cases Oc
     have heH:H e6=none:=Bh.free dr3.ne (s4.free (sO _ Oc))
     have hR6:=s6 _ _ sX
     refine⟨_,rfl,_,rfl,Rd,_,rfl,jx.k (k:=Sum.inl (x:Int)) hR6 (by rw[sizeLine_eq];omega),?_⟩
     refine⟨_,_,rfl,fun b o e=>?_,fun b e=>?_,aC,fun z u hu=>?_,Nat.le_trans (LC _ _ _) (by omega),fun z=>?_⟩
     ·rw[aH (dH e).1]
      exact s6 _ _ (s5 _ _ e)
     ·have hb:b≠Rd:=fun z=>by rw[z,aC] at e;cases e
      rw[aH hb] at e
      exact sO b (s6.free e)
     ·rcases YH hu with⟨rfl,rfl⟩|hu'
      ·exact⟨e6,ks6,rfl,cZ heR (bO heH (by rw[aH heR];exact alz)),hk6⟩
      ·obtain⟨e,ks,g1,g2,g3⟩:=BW z u hu'
       obtain⟨g4,g5⟩:=dH g2
       obtain⟨g6,g7⟩:=cu g5
       exact⟨e,ks,g1,cZ g4 (bO g6 (by rw[aH g4];exact s6 _ _ g7)),g3⟩
     ·rw[nu,take_snoc hx,List.mem_append,List.mem_singleton]
      by_cases ez:z=x
      ·subst ez
       rw[if_pos rfl]
       simp
      ·rw[if_neg (fun w=>ez (by have:=Sum.inl.inj w;omega)),sY]
       constructor
       ·rintro(w|w)
        ·exact .inl w
        ·exact .inr (.inl w)
       ·rintro(w|w|w)
        ·exact .inl w
        ·exact .inr w
        ·exact absurd w ez
    ·rintro σ H5 ⟨v3,gb,rfl,s5,sO,sX,BW,hl5,sY⟩
     rw[bT,List.take_length] at sY
     rw[bT] at hl5
     show Qi K A _ [some (.ref a),some (.ref Wa),some (.ref Bd),v3,some (.ref Rd),some (.ref Ya)] H5
     have hW5:=s5 _ _ (cZ hWR (s4 _ _ vW))
     refine⟨_,rfl,Wa,rfl,⟨_,au.of hW5⟩,fun Za hZa=>?_⟩
     refine lV (fun(x:Nat)=>(aQ gb (Sum.inl (x:Int))).isNone) (fun x=>V.int ((x:Nat):Int)) hZa hW5 (fun x hx Hd sd Qt g=>?_) (fun x hx hf Hd sd Qe g=>⟨_,rfl,g⟩) (by omega) fun H6 s6 hy6=>?_
     ·refine⟨_,rfl,_,rfl,Rd,_,rfl,dG.k (k:=Sum.inl (x:Int)) (sd _ _ sX),_,rfl,?_⟩
      have e:(!(aQ gb (Sum.inl (x:Int))).isSome)=(aQ gb (Sum.inl (x:Int))).isNone:=by cases aQ gb (Sum.inl (x:Int))<;>rfl
      rw[e]
      exact g Hd (Same.refl _)
     ·rw[←pD,List.map_id'] at hy6
      have eys:∀x∈ws,(aQ gb (Sum.inl (x:Int))).isNone= !((MP.eZ s x).all fun(y:Nat)=>(aQ kv (Sum.inl (y:Int))).isSome):=fun x hx=>by
       have hn0:=((hws x).mp hx).2
       have h1:=sY x
       rw[hn0] at h1
       have h2:x∈ys↔((MP.eZ s x).all fun(y:Nat)=>(aQ kv (Sum.inl (y:Int))).isSome)=true:=by
        rw[←hys,List.mem_filter]
        exact⟨fun w=>w.2,fun w=>⟨hx,w⟩⟩
       cases e:aQ gb (Sum.inl (x:Int)) with
       |none=>
        rw[e] at h1
        have:x∉ys:=fun w=>absurd rfl (h1.mpr (.inr w))
        cases e2:((MP.eZ s x).all fun(y:Nat)=>(aQ kv (Sum.inl (y:Int))).isSome) with
        |false=>rfl
        |true=>exact absurd (h2.mpr e2) this
       |some u=>
        rw[e] at h1
        have:x∈ys:=(h1.mp (by simp)).elim (fun w=>absurd rfl w) id
        rw[h2.mp this]
        rfl
      have abp:=Ut (fun x=>((MP.eZ s x).all fun(y:Nat)=>(aQ kv (Sum.inl (y:Int))).isSome)) ws
      rw[hys] at abp
      have alA:ws.filter (fun(x:Nat)=>(aQ gb (Sum.inl (x:Int))).isNone)=ws.filter fun x=> !((MP.eZ s x).all fun(y:Nat)=>(aQ kv (Sum.inl (y:Int))).isSome):=List.filter_congr eys
      rw[←alA] at abp
      refine⟨_,by omega,Za,ws.filter (fun(x:Nat)=>(aQ gb (Sum.inl (x:Int))).isNone),gb,_,_,rfl,fun b o e=>s6 _ _ (s5 _ _ (cZ (dH e).1 (s4 _ _ (sm _ _ e)))),fun b e=>fr b (s4.free (sO b (s6.free e))),hy6,s6 _ _ sX,(fun x v hx=>by
       obtain⟨e,ks,g1,g2,g3⟩:=BW x v hx
       exact⟨e,ks,g1,zp (qX s6) _ _ g2,g3⟩),fun x=>?_,hwn.sublist List.filter_sublist,rfl,by omega⟩
      rw[List.mem_filter,hws]
      have hi:=sY x
      constructor
      ·rintro⟨⟨w1,w2⟩,w3⟩
       exact⟨w1,by simpa using w3⟩
      ·rintro⟨w1,w2⟩
       refine⟨⟨w1,?_⟩,by rw[w2];rfl⟩
       cases e:aQ kv (Sum.inl (x:Int)) with
       |none=>rfl
       |some u=>exact absurd w2 (hi.mpr (.inl (by rw[e];simp)))
end
open Rung (pass moves unsure whyNot allStates hangsOn)
def akT(v:V)(r:Addr)(s:Rung.Scheme)(H2:Hp):Nat→L2.St→Hp→Prop:=fun i σ Hc=>∃v2 v3:Option V,σ=[some v,some (.ref r),v2,v3]∧Hc=H2∧∀j y,j<i→(allStates s)[j]? =some y→whyNot s y=0
section
variable{K:PySem.W.Frag}{mg:Str→Option Value}{A:Ad}
theorem ac8(T:Tx K mg A)(vs:List V)(H:Hp)(Q:VK)(E:XK)(h:FP A vs H Q E):FT K A {nx:=fun _ H'=>Q .non H',rt:=Q} (L2.start ["scheme","rests","state","why"] vs) H:=by
 obtain⟨v,s,d,n,rfl,hS,hn,oK,h8,q⟩:=h
 show FT K A _ [some v,none,none,none] H
 have hw:=hS.well
 refine⟨_,rfl,v,s,d,n,rfl,hS,hn,oK,h8,fun w H1 n1 d1 ⟨r,kvs,ew,hr,hR,Nu⟩=>?_⟩
 subst ew
 have S1:=hS.near n1 d1
 obtain⟨a,dx,lc,lk,cs,rfl,ha,hc,hk,hp⟩:=id S1.sees
 show QT K A _ [some (.ref a),some (.ref r),none,none] H1
 refine⟨_,rfl,a,_,dx,_,_,rfl,ha,T.cW,T.qy,KQ _ _ _ _ _,rR s.inputs.length s.relays.length,rfl,by rw[oY hw];exact MB.JG s,by rw[oY hw];exact YX hw h8,fun w H2 s2 ⟨l,e2,hl⟩=>?_⟩
 subst e2
 rw[oY hw,MP.V1 hw.ins hw.rel] at hl
 have hl2:=bW _ _ _ _ hl
 have n2:Near d H H2:=n1.trans (Near.of s2)
 have d2:=d1.same s2
 have hr2:=s2 _ _ (bW _ _ _ _ hr)
 have jg:qj H2 kvs s:=fun x v hx=>by
  obtain⟨e,ks,g1,g2,g3⟩:=hR x v hx
  exact⟨e,ks,g1,s2 _ _ (bW _ _ _ _ g2),g3⟩
 refine⟨l,rfl,⟨_,au.of hl2⟩,lE (xs:=nV (allStates s)) (akT (.ref a) r s H2) ⟨none,none,rfl,rfl,fun j y hj=>absurd hj (Nat.not_lt_zero j)⟩ (fun i σ H' _ ⟨_,_,_,e,_⟩=>by rw[e];exact au.of hl2) ?_ ?_⟩
 ·rintro i y σ Hc hi ⟨v2,v3,rfl,rfl,hno⟩
  obtain⟨x,hx,rfl⟩:=iM hi
  refine⟨_,rfl,_,rfl,x,r,kvs,s,rfl,hr2,jg,Nu x (List.mem_of_getElem? hx),?_⟩
  show Er K A _ [some (.ref a),some (.ref r),some (.int (x:Int)),some (.int ((whyNot s x:Nat):Int))] Hc
  unfold Er
  walk_at"rd"
  by_cases c:whyNot s x=0
  ·rw[if_neg (by rw[c];simp)]
   refine⟨_,_,rfl,rfl,fun j z hj hz=>?_⟩
   by_cases e:j=i
   ·subst e
    rw[hx] at hz
    cases hz
    exact c
   ·exact hno j z (by omega) hz
  ·rw[if_pos (by simp only[decide_eq_false_iff_not];omega)]
   refine⟨len2 _ _,fun p hp=>q _ _ (n2.upd (n2.free d2.ne hp)) (d2.upd hp) ?_⟩
   rw[MP.aeA hx c hno]
   exact⟨p,rfl,bO (n2.free d2.ne hp) aC⟩
 ·rintro σ Hc ⟨v2,v3,rfl,rfl,hno⟩
  rw[bT] at hno
  refine q _ Hc n2 d2 ?_
  rw[MP.aez fun x hx=>by
   obtain⟨j,hj⟩:=List.mem_iff_getElem?.mp hx
   exact hno j x (List.getElem?_eq_some_iff.mp hj).1 hj]
  rfl
end
open Rung (pass moves unsure whyNot allStates hangsOn)
def fM(f:Nat→Nat)(x k:Nat):List (Key×V):=(List.range k).map fun i=>((Sum.inl ((MP.aX f x i:Nat):Int):Key),V.int (i:Int))
theorem ajg(f:Nat→Nat)(x k:Nat):(fM f x k).map (fun kv=>kV kv.1)=nV ((List.range k).map (MP.aX f x)):=by
 unfold fM nV
 rw[List.map_map,List.map_map]
 rfl
theorem aar(f:Nat→Nat)(x k:Nat):(fM f x k).length=k:=by unfold fM;rw[List.length_map,List.length_range]
theorem ZQ(f:Nat→Nat)(x k:Nat):fM f x (k+1)=fM f x k++[(Sum.inl ((MP.aX f x k:Nat):Int),V.int (k:Int))]:=by
 unfold fM
 rw[List.range_succ,List.map_append]
 rfl
theorem aas(f:Nat→Nat)(x k y:Nat):(Sum.inl (y:Int):Key)∈(fM f x k).map (·.1)↔∃i,i<k∧MP.aX f x i=y:=by
 unfold fM
 rw[List.map_map,List.mem_map]
 constructor
 ·rintro⟨i,hi,e⟩
  exact⟨i,List.mem_range.mp hi,by have:=Sum.inl.inj e;omega⟩
 ·rintro⟨i,hi,rfl⟩
  exact⟨i,List.mem_range.mpr hi,rfl⟩
theorem Ml{f:Nat→Nat}{x k y:Nat}:aQ (fM f x k) (Sum.inl (y:Int))=none↔∀i,i<k→MP.aX f x i≠y:=by
 constructor
 ·intro h i hi e
  exact Yd h ((aas f x k y).mpr ⟨i,hi,e⟩)
 ·intro h
  exact J5 fun z=>by
   obtain⟨i,hi,e⟩:=(aas f x k y).mp z
   exact h i hi e
theorem aaO{f:Nat→Nat}{x:Nat}:∀{k p:Nat},p<k→(∀i j,i<j→j<k→MP.aX f x i≠MP.aX f x j)→aQ (fM f x k) (Sum.inl ((MP.aX f x p:Nat):Int))=some (.int (p:Int))
 |0,p,h,_=>absurd h (Nat.not_lt_zero p)
 |k+1,p,h,hd=>by
  rw[ZQ,Vk]
  by_cases e:p=k
  ·subst e
   rw[Ml.mpr fun i hi=>hd i p hi (by omega)]
   exact iK rfl
  ·rw[aaO (by omega) fun i j h1 h2=>hd i j h1 (by omega)]
def aaP(v:V)(s:Rung.Scheme)(x:Nat)(a Pl d:Addr)(n:Nat)(o:List Nat)(H:Hp):Nat→L2.St→Hp→Prop:=fun m σ Hc=>∃k:Nat,σ=[some v,some (.int (x:Int)),some (.ref a),some (.ref Pl),some (.int ((MP.aX (pass s o) x k:Nat):Int))]∧Near d H Hc∧cD Hc d s (n+k*o.length)∧Hc Pl=some (.dK (fM (pass s o) x k))∧(∀i j,i<j→j<k→MP.aX (pass s o) x i≠MP.aX (pass s o) x j)∧m+k=2^s.relays.length
theorem XJ{s:Rung.Scheme}{o:List Nat}{x k:Nat}(h:∀i j,i<j→j<k→MP.aX (pass s o) x i≠MP.aX (pass s o) x j):k≤2^s.relays.length:=by
 have nd:((List.range k).map (MP.aX (pass s o) x)).Nodup:=by
  rw[List.nodup_iff_pairwise_ne,List.pairwise_map]
  refine List.pairwise_lt_range.imp_of_mem fun {i j} hi hj hij=>h i j hij (List.mem_range.mp hj)
 have:=MP.rD (r:=s.relays.length) (x:=x) nd fun y hy=>by
  obtain⟨i,_,rfl⟩:=List.mem_map.mp hy
  exact MP.ug i
 rwa [List.length_map,List.length_range] at this
section
variable{K:PySem.W.Frag}{mg:Str→Option Value}{A:Ad}
theorem ab1(T:Tx K mg A)(vs:List V)(H:Hp)(Q:VK)(E:XK)(h:tD A vs H Q E):wF K A {nx:=fun _ H'=>Q .non H',rt:=Q} (L2.start ["self"] vs) H:=by
 obtain⟨v,xs,p,rfl,⟨a,dx,l,rfl,ha,hl⟩,q⟩:=h
 show wF K A _ [some (.ref a)] H
 unfold wF
 walk_at"rd"
 refine⟨_,dx,_,ha,T.iR,T.qC,_,K8 _ _,_,dx,_,ha,T.iR,T.m7,_,tZ _ _,l,rfl,_,.inl (au.of hl),?_⟩
 refine⟨rfl,?_⟩
 have e:(!decide (V.int (p:Int)=V.int (((nV xs).length:Int) - 1)))=decide (p+1≠xs.length):=by
  rw[bT,Bool.eq_iff_iff]
  simp only[Bool.not_eq_true',decide_eq_false_iff_not,decide_eq_true_eq,V.int.injEq,ne_eq]
  omega
 rw[e]
 exact q
theorem ag5(T:Tx K mg A)(vs:List V)(H:Hp)(Q:VK)(E:XK)(h:t_ A vs H Q E):Jw K A {nx:=fun _ H'=>Q .non H',rt:=Q} (L2.start ["scheme","state","order","places","now"] vs) H:=by
 obtain⟨v,s,x,a,o,d,n,rfl,hS,hn,ha,hol,ho,hr8,q⟩:=h
 have had:a≠d:=fun z=>by obtain⟨k,h1,_⟩:=hS.d8;rw[←z,ha] at h1;cases h1
 have alW:2^s.relays.length≤256:=Nat.pow_le_pow_right (n:=2) (by decide) hr8
 show Jw K A _ [some v,some (.int (x:Int)),some (.ref a),none,none] H
 intro Pl hPl
 have hPd:Pl≠d:=fun z=>hS.d8.ne (by rw[←z];exact hPl)
 show Us K A _ [some v,some (.int (x:Int)),some (.ref a),some (.ref Pl),none] (upd H Pl (.dK []))
 refine⟨_,rfl,?_⟩
 show Ur K A _ [some v,some (.int (x:Int)),some (.ref a),some (.ref Pl),some (.int (x:Int))] (upd H Pl (.dK []))
 refine⟨aaP v s x a Pl d n o H,⟨2^s.relays.length,0,rfl,(Near.refl d H).upd hPl,by rw[Nat.zero_mul];exact hS.d8.upd hPl,aC,fun i j _ hj=>absurd hj (Nat.not_lt_zero j),rfl⟩,?_⟩
 rintro m σ Hc ⟨k,rfl,nr,dr,sZ,BX,hmk⟩
 have hko:k*o.length≤256*12:=Nat.mul_le_mul (by omega) hol
 walk_at"rd"
 refine⟨_,dG.k (k:=Sum.inl ((MP.aX (pass s o) x k:Nat):Int)) sZ,?_⟩
 cases e:aQ (fM (pass s o) x k) (Sum.inl ((MP.aX (pass s o) x k:Nat):Int)) with
 |none=>
  have hnew:=Ml.mp e
  have aaQ:∀i j,i<j→j<k+1→MP.aX (pass s o) x i≠MP.aX (pass s o) x j:=fun i j h1 h2=>by
   by_cases ej:j=k
   ·subst ej
    exact hnew i h1
   ·exact BX i j h1 (by omega)
  have hroom:=XJ aaQ
  rw[if_pos (by simp)]
  refine⟨fun σ' H'=>∃m',m'<m∧aaP v s x a Pl d n o H m' σ' H',fun _ _ h=>h,?_⟩
  unfold Uo
  walk_at"rd"
  refine⟨_,sZ,_,jx.k (k:=Sum.inl ((MP.aX (pass s o) x k:Nat):Int)) sZ (by rw[aar,sizeLine_eq];omega),?_⟩
  rw[Kr _ e,aar,←ZQ]
  have sW:Near d H (upd Hc Pl (.dK (fM (pass s o) x (k+1)))):=nr.upd hPl
  have Dg:cD (upd Hc Pl (.dK (fM (pass s o) x (k+1)))) d s (n+k*o.length):=dr.put hPd
  have hP2:(upd Hc Pl (.dK (fM (pass s o) x (k+1)))) Pl=some (.dK (fM (pass s o) x (k+1))):=aC
  generalize upd Hc Pl (.dK (fM (pass s o) x (k+1)))=H2 at sW Dg hP2⊢
  refine⟨v,s,_,a,o,d,n+k*o.length,rfl,hS.near sW Dg,by omega,sW.get had ha,hol,ho,fun w H3 n3 d3 e3=>?_⟩
  subst e3
  refine⟨m - 1,by omega,k+1,rfl,sW.trans n3,?_,n3.get hPd hP2,aaQ,by omega⟩
  rw[Nat.succ_mul,←Nat.add_assoc]
  exact d3
 |some u=>
  rw[if_neg (by simp)]
  have hin:∃p,p<k∧MP.aX (pass s o) x p=MP.aX (pass s o) x k:=by
   refine Classical.byContradiction fun hno=>?_
   rw[Ml.mpr fun i hi ei=>hno ⟨i,hi,ei⟩] at e
   cases e
  obtain⟨p,hp,ep⟩:=hin
  obtain⟨k',rfl⟩:∃k',k=k'+1:=⟨k - 1,by omega⟩
  have hl:MP.Loop (pass s o) x k' p:=⟨by omega,fun i j h1 h2=>BX i j h1 (by omega),ep.symm⟩
  have Nv:=aaO hp BX
  rw[ep] at Nv
  have hg:=dG.k (k:=Sum.inl ((MP.aX (pass s o) x (k'+1):Nat):Int)) sZ
  rw[Nv] at hg
  show Uq K A _ [some v,some (.int (x:Int)),some (.ref a),some (.ref Pl),some (.int ((MP.aX (pass s o) x (k'+1):Nat):Int))] Hc
  refine⟨_,rfl,Pl,_,rfl,sZ,fun Sl hSl=>?_⟩
  rw[ajg]
  have s4:Same Hc (upd Hc Sl (.lst (nV ((List.range (k'+1)).map (MP.aX (pass s o) x))))):=bI hSl
  have hS4:(upd Hc Sl (.lst (nV ((List.range (k'+1)).map (MP.aX (pass s o) x))))) Sl=some (.lst (nV ((List.range (k'+1)).map (MP.aX (pass s o) x)))):=aC
  generalize upd Hc Sl (.lst (nV ((List.range (k'+1)).map (MP.aX (pass s o) x))))=H4 at s4 hS4⊢
  refine⟨_,rfl,_,rfl,Pl,_,rfl,by have:=dG.k (k:=Sum.inl ((MP.aX (pass s o) x (k'+1):Nat):Int)) (s4 _ _ sZ);rw[Nv] at this;exact this,rfl,fun y dy hy vQ hne=>?_⟩
  have vZ:Near d H H4:=nr.trans (Near.of s4)
  have Di:=dr.same s4
  have hy0:H y=none:=vZ.free Di.ne hy
  have hSy:Sl≠y:=bM hS4 hy
  have alB:Sl≠dy:=bM hS4 vQ
  have alC:H Sl=none:=nr.free dr.ne hSl
  refine q _ _ ((vZ.upd (vZ.free Di.ne vQ)).upd hy0) ?_ ⟨k',p,hl,y,dy,Sl,rfl,bO hy0 aC,bO alC ?_⟩
  ·refine((Di.upd vQ).put (fun z=>Di.ne (by rw[←z];exact hy))).le ?_
   have:=Nat.mul_le_mul_right o.length (XJ BX)
   omega
  ·rw[aH hSy,aH alB]
   exact hS4
end
open Rung (pass moves unsure whyNot allStates hangsOn)
theorem LstAt.mono{G G':Hp}{v:V}{xs:List Nat}(s:Same G G')(h:LstAt G v xs):LstAt G' v xs:=by
 obtain⟨l,e,hl⟩:=h
 exact⟨l,e,s _ _ hl⟩
def akU(n:Nat)(H:Hp):Nat→L2.St→Hp→Prop:=fun i σ Hc=>∃(O:Addr) (ls:List V) (v2 v3 v4:Option V),σ=[some (.int (n:Int)),some (.ref O),v2,v3,v4,none]∧Same H Hc∧H O=none∧Hc O=some (.lst ls)∧Paired (LstAt (nw H Hc)) ls (MP.dM i)
def akV(n i:Nat)(O Lg:Addr)(H H1:Hp)(os:List (List Nat)):Nat→L2.St→Hp→Prop:=fun k σ Hc=>∃(ms:List V) (v4:Option V),σ=[some (.int (n:Int)),some (.ref O),some (.int (i:Int)),some (.ref Lg),v4,none]∧Same H1 Hc∧Hc Lg=some (.lst ms)∧Paired (LstAt (hide Lg (nw H Hc))) ms ((os.take k).flatMap (MP.pL i))
theorem ah9(i:Nat)(o:List Nat):(MP.pL i o).length=i+1:=by unfold MP.pL;rw[List.length_map,List.length_range]
theorem YZ(i:Nat):∀os:List (List Nat),(os.flatMap (MP.pL i)).length=os.length*(i+1)
 | []=>by simp
 |o::r=>by
  rw[List.flatMap_cons,List.length_append,ah9,YZ i r,List.length_cons,Nat.succ_mul]
  omega
theorem Wk{α β γ:Type}{F:α→γ→Prop}{f:β→γ}:∀{l:List α} {m:List β},Paired (fun a b=>F a (f b)) l m→Paired F l (m.map f)
 |_,_,.nil=>.nil
 |_,_,.cons h t=>.cons h (Wk t)
section
variable{K:PySem.W.Frag}{mg:Str→Option Value}{A:Ad}
theorem ad1(T:Tx K mg A)(vs:List V)(H:Hp)(Q:VK)(E:XK)(h:G7 vs H Q E):G_ K A {nx:=fun _ H'=>Q .non H',rt:=Q} (L2.start ["many","orders","relay","longer","order","place"] vs) H:=by
 obtain⟨n,rfl,hn,q⟩:=h
 show G_ K A _ [some (.int (n:Int)),none,none,none,none,none] H
 refine⟨Nat.zero_le _,fun p0 hp0=>⟨len1 _,fun O hO=>?_⟩⟩
 have s0:Same H (upd H p0 (.lst [])):=bI hp0
 have oJ:H O=none:=s0.free hO
 have hpO:p0≠O:=bM aC hO
 show RK K A _ [some (.int (n:Int)),some (.ref O),none,none,none,none] (upd (upd H p0 (.lst [])) O (.lst [.ref p0]))
 refine⟨_,rfl,_,rfl,by omega,by omega,?_⟩
 rw[Int.toNat_natCast]
 refine Wv (akU n H) ⟨O,[.ref p0],none,none,none,rfl,cC s0 oJ,oJ,aC,.cons ⟨p0,rfl,bO hp0 (by rw[aH hpO,aC];rfl)⟩ .nil⟩ ?_ ?_
 ·rintro i σ H1 hi ⟨O,ls,v2,v3,v4,rfl,s1,oJ,v7,pr⟩
  have hlen:=MP.Kv i (by omega)
  have hll:=d9 pr
  show aB _ _ _ [some (.int (n:Int)),some (.ref O),some (.int (0+(i:Int))),v3,v4,none] H1
  rw[Int.zero_add]
  refine⟨Nat.zero_le _,fun Lg hLg=>?_⟩
  have alD:H Lg=none:=s1.free hLg
  have hOL:O≠Lg:=bM v7 hLg
  show RG K A _ [some (.int (n:Int)),some (.ref O),some (.int (i:Int)),some (.ref Lg),v4,none] (upd H1 Lg (.lst []))
  refine⟨_,rfl,O,rfl,⟨_,au.of (bI hLg _ _ v7)⟩,lE (xs:=ls) (akV n i O Lg H H1 (MP.dM i)) ⟨[],v4,rfl,bI hLg,aC,.nil⟩ (fun k σ H' _ ⟨_,_,_,s',_⟩=>au.of (s' _ _ v7)) ?_ ?_⟩
  ·rintro k y σ H2 hk ⟨ms,v4,rfl,s2,hL2,gF⟩
   obtain⟨o,ho,lo,rfl,hlo⟩:=gH pr hk
   obtain⟨abq,Od⟩:=cu hlo
   have hop:=MP.zc i o (List.mem_of_getElem? ho)
   have hol:o.length=i:=by rw[hop.length_eq,List.length_range]
   have alE:=s2 _ _ Od
   have hms:=d9 gF
   rw[YZ] at hms
   have htk:((MP.dM i).take k).length≤120:=by rw[List.length_take];omega
   have alX:ms.length≤120*6:=by rw[hms];exact Nat.mul_le_mul htk (by omega)
   show iu _ _ [some (.int (n:Int)),some (.ref O),some (.int (i:Int)),some (.ref Lg),some (.ref lo),none] H2
   refine⟨_,rfl,.inl ⟨rfl,_,au.of hL2⟩,_,rfl,_,_,rfl,rfl,_,rfl,by omega,by omega,fun D hD=>?_⟩
   have en:((i:Int)+1).toNat=i+1:=by omega
   show ∃W,_
   rw[en]
   refine ags (lo:=0) (n:=i+1) (fun _=>true) (fun p y G=>LstAt G y (o.take p++[i]++o.drop p)) hD (fun p Hc hp sm Qt g=>g Hc (Same.refl _)) (fun p Hc hp hf sm Qe g=>?_) (fun p y G G' sm hG=>hG.mono sm) (by rw[sizeLine_eq];omega) fun ys H3 s3 ql lg=>?_
   ·rw[Int.zero_add]
    have hloc:=sm _ _ alE
    refine⟨_,rfl,_,rfl,_,rfl,lo,_,rfl,au.of hloc,fun q1 hq1=>?_⟩
    rw[YD]
    have t1:Same Hc (upd Hc q1 (.lst ((nV o).take p))):=bI hq1
    refine⟨_,rfl,len1 _,fun q2 hq2=>?_⟩
    have t2:Same Hc (upd (upd Hc q1 (.lst ((nV o).take p))) q2 (.lst [.int (i:Int)])):=cC t1 (t1.free hq2)
    have abr:(upd (upd Hc q1 (.lst ((nV o).take p))) q2 (.lst [.int (i:Int)])) q1=some (.lst ((nV o).take p)):=by rw[aH (bM aC hq2),aC]
    have abt:(upd (upd Hc q1 (.lst ((nV o).take p))) q2 (.lst [.int (i:Int)])) q2=some (.lst [.int (i:Int)]):=aC
    generalize (upd (upd Hc q1 (.lst ((nV o).take p))) q2 (.lst [.int (i:Int)]))=Ha at t2 abr abt⊢
    refine⟨q1,q2,_,_,rfl,rfl,abr,abt,by rw[List.length_take,bT,sizeLine_eq];simp only[List.length_cons,List.length_nil];omega,fun q3 hq3=>?_⟩
    have t3:Same Hc (upd Ha q3 (.lst ((nV o).take p++[.int (i:Int)]))):=cC t2 (t2.free hq3)
    have Oe:(upd Ha q3 (.lst ((nV o).take p++[.int (i:Int)]))) q3=some (.lst ((nV o).take p++[.int (i:Int)])):=aC
    generalize (upd Ha q3 (.lst ((nV o).take p++[.int (i:Int)])))=Hb at t3 Oe⊢
    refine⟨_,rfl,_,rfl,_,rfl,lo,_,rfl,au.of (t3 _ _ hloc),fun q4 hq4=>?_⟩
    rw[KJ]
    have t4:Same Hc (upd Hb q4 (.lst ((nV o).drop p))):=cC t3 (t3.free hq4)
    have abu:(upd Hb q4 (.lst ((nV o).drop p))) q3=some (.lst ((nV o).take p++[.int (i:Int)])):=by rw[aH (bM Oe hq4)];exact Oe
    have abv:(upd Hb q4 (.lst ((nV o).drop p))) q4=some (.lst ((nV o).drop p)):=aC
    generalize (upd Hb q4 (.lst ((nV o).drop p)))=Hd at t4 abu abv⊢
    refine⟨q3,q4,_,_,rfl,rfl,abu,abv,by rw[List.length_append,List.length_take,List.length_drop,bT,sizeLine_eq];simp only[List.length_cons,List.length_nil];omega,fun q5 hq5=>?_⟩
    have abw:=t4.free hq5
    refine g _ _ (cC t4 abw) ⟨q5,rfl,bO abw ?_⟩
    rw[aC,jh,jh]
    unfold nV
    rw[List.map_take,List.map_drop]
    rfl
   ·rw[j6] at lg
    have alF:=d9 lg
    rw[List.length_range] at alF
    refine⟨Lg,D,_,_,rfl,rfl,s3 _ _ hL2,ql,by rw[sizeLine_eq];omega,?_⟩
    have hLD:Lg≠D:=bM hL2 hD
    have sk:Same (hide Lg (nw H H2)) (hide Lg (nw H (upd H3 Lg (.lst (ms++ys))))):=fun b w e=>by
     obtain⟨e0,e⟩:=dH e
     obtain⟨e1,e2⟩:=cu e
     exact cZ e0 (bO e1 (by rw[aH e0];exact s3 _ _ e2))
    have sn:Same (nw (upd H2 D (.lst [])) H3) (hide Lg (nw H (upd H3 Lg (.lst (ms++ys))))):=fun b w e=>by
     obtain⟨e1,e2⟩:=cu e
     have hbD:b≠D:=fun z=>by rw[z,aC] at e1;cases e1
     rw[aH hbD] at e1
     have hbL:b≠Lg:=fun z=>by rw[z,hL2] at e1;cases e1
     exact cZ hbL (bO (s1.free (s2.free e1)) (by rw[aH hbL];exact e2))
    refine⟨ms++ys,_,rfl,cC (s2.trans s3) hLg,aC,?_⟩
    rw[take_snoc ho,List.flatMap_append]
    refine qx (Paired.dY gF fun _ _ r=>r.mono sk) ?_
    have pf:=tU (F:=fun y p=>LstAt (hide Lg (nw H (upd H3 Lg (.lst (ms++ys))))) y (o.take p++[i]++o.drop p)) (g:=fun p=>p) (Paired.dY lg fun _ _ r=>r.mono sn)
    rw[List.map_id'] at pf
    rw[show [o].flatMap (MP.pL i)=(List.range (i+1)).map fun p=>o.take p++[i]++o.drop p by simp[MP.pL]]
    exact Wk pf
  ·rintro σ H2 ⟨ms,v4,rfl,s2,hL2,gF⟩
   rw[hll,List.take_length] at gF
   show RD K A _ [some (.int (n:Int)),some (.ref O),some (.int (i:Int)),some (.ref Lg),v4,none] H2
   exact⟨_,rfl,Lg,ms,_,_,_,rfl,s1.trans s2,alD,hL2,Paired.dY gF fun _ _ r=>r.mono (nG _ _)⟩
 ·rintro σ H1 ⟨O,ls,v2,v3,v4,rfl,s1,oJ,v7,pr⟩
  show RJ K A _ _ H1
  exact⟨_,rfl,q _ H1 s1 ⟨O,ls,rfl,bO oJ v7,pr⟩⟩
end
open Rung (pass moves unsure whyNot allStates hangsOn)
theorem Scanned.mono{A:Ad}{G G':Hp}{v:V}{s:Rung.Scheme}{o:List Nat}{x:Nat}(h:Same G G')(g:Scanned A G v s o x):Scanned A G' v s o x:=by
 obtain⟨m,p,h1,h2⟩:=g
 exact⟨m,p,h1,h2.mono h⟩
theorem ji{A:Ad}{B G H H2:Hp}{P d p:Addr}{n m:Nat}{Q:VK}{st:Sd}{ans:List Int}(q:Done A B G H P d n Q (st,ans))(pg:PG A G H P st d n)(nr:Near d H H2)(dr:cD H2 d st.scheme m)(hm:m≤n+20000)(hp:H2 p=none):Q (.ref p) (upd H2 p (.lst (ans.map V.int))):=by
 have hp':H p=none:=nr.free dr.ne hp
 exact q _ G p d ((But.near nr).trans (But.same (bI hp))) hp' aC (((pg.near nr dr).same (bI hp)).le hm) (fun b hb=>.inl hb) (pg.sub.free hp') (.inl rfl) (dr.upd hp).ne
theorem qM{A:Ad}{B G H:Hp}{P d p:Addr}{n:Nat}{Q:VK}{st:Sd}{ans:List Int}(q:Done A B G H P d n Q (st,ans))(pg:PG A G H P st d n)(hp:H p=none):Q (.ref p) (upd H p (.lst (ans.map V.int))):=ji q pg (Near.refl _ _) pg.d8 (Nat.le_add_right _ _) hp
theorem zq(l:List Nat):(RungScanSeed.nums l).map V.int=nV l:=(uI l).symm
section
variable{K:PySem.W.Frag}{mg:Str→Option Value}{A:Ad}
theorem abH(T:Tx K mg A)(vs:List V)(H:Hp)(Q:VK)(E:XK)(h:Dt A vs H Q E):Dy K A {nx:=fun _ H'=>Q .non H',rt:=Q} (L2.start ["scheme","state","order"] vs) H:=by
 obtain⟨v,s,x,d,n,rfl,hS,hn,oK,q⟩:=h
 show Dy K A _ [some v,some (.int (x:Int)),none] H
 obtain⟨a,dx,lc,lk,cs,rfl,ha,hc,hk,hp⟩:=id hS.sees
 refine⟨_,rfl,a,_,dx,_,_,rfl,ha,T.cW,T.iJ,j7 _ _ _ _ _,lc,_,rfl,.inl (au.of hc),s.relays.length,by rw[bT,List.length_map],oK,fun w H1 s1 ⟨l,ls,e1,hl,pr⟩=>?_⟩
 subst e1
 have hl1:=bW _ _ _ _ hl
 have S1:=hS.same s1
 have hlen:=MP.Kv s.relays.length oK
 have hll:=d9 pr
 have h32:2^s.relays.length≤32:=Nat.pow_le_pow_right (n:=2) (by decide) oK
 refine⟨l,rfl,⟨_,au.of hl1⟩,fun D hD=>?_⟩
 refine KR (s:=s) (d:=d) (fun _=>true) (fun k=>n+160*k) (fun k=>n+160*k) (fun k y G=>Scanned A G y s ((MP.dM s.relays.length).getD k []) x) hD hl1 S1.d8 (fun k y Hc hk nr dr Qt g=>g Hc (Near.refl _ _) dr) (fun k y Hc hk hf nr dr Qe g=>?_) (fun k=>by omega) (fun k y G G' sm hG=>hG.mono sm) (by rw[sizeLine_eq];omega) fun ys H2 n2 d2 hy gF=>?_
 ·obtain⟨o,ho,lo,rfl,hlo⟩:=gH pr hk
  obtain⟨abq,Od⟩:=cu hlo
  have vU:lo≠d:=fun z=>hS.d8.ne (by rw[←z];exact abq)
  have hop:=MP.zc _ o (List.mem_of_getElem? ho)
  have hol:o.length=s.relays.length:=by rw[hop.length_eq,List.length_range]
  have hkl:=(List.getElem?_eq_some_iff.mp ho).1
  have hmul:2^s.relays.length*o.length≤32*5:=Nat.mul_le_mul h32 (by omega)
  rw[getD_some ho] at g
  refine⟨_,rfl,_,rfl,_,rfl,.ref a,s,x,lo,o,d,n+160*k,rfl,S1.near nr dr,by omega,nr.get vU Od,by omega,fun j hj=>List.mem_range.mp (hop.mem_iff.mp hj),by omega,fun w H3 n3 d3 r3=>g _ H3 n3 (d3.le (by omega)) r3⟩
 ·rw[j6,hll] at gF
  refine q _ H2 ((Near.of s1).trans n2) (d2.le (by omega)) ⟨D,ys,rfl,bO (s1.free hD) hy,?_⟩
  have sn:Same (nw (upd H1 D (.lst [])) H2) (nw H H2):=zX (cC s1 (s1.free hD))
  have pf:=tU (F:=fun y o=>Scanned A (nw H H2) y s o x) (g:=fun k=>(MP.dM s.relays.length).getD k []) (Paired.dY gF fun _ _ r=>r.mono sn)
  have e:(List.range (MP.dM s.relays.length).length).map (fun k=>(MP.dM s.relays.length).getD k [])=MP.dM s.relays.length:=by
   refine List.ext_getElem (by simp) fun i h1 h2=>?_
   simp[List.getD,h2]
  rw[e] at pf
  exact pf
theorem ajh(T:Tx K mg A)(vs:List V)(H:Hp)(Q:VK)(E:XK)(h:K4 K A vs H Q E):zK K A {nx:=fun _ H'=>Q .non H',rt:=Q} (L2.start ["program","scan"] vs) H:=by
 obtain⟨P,B,G,st,d,n,rfl,pg,hn,hB,q⟩:=h
 obtain⟨⟨dx,v,o,h1,h2,h3⟩,h4,h5,f9,dU,h6,h7⟩:=id pg
 show zK K A _ [some (.ref P),none] H
 obtain⟨as,gG,lc,lk,cs,ev,ha,hc,_⟩:=id h2
 subst ev
 have hrel:=h6.well.rel
 have hlen:=h6.len
 have hst:RungScanSeed.step st .until_=if 8<st.scheme.relays.length then(st,[-9]) else(match Rung.scanned st.scheme st.order st.x with
  |some r=>({st with x:=r.1},[0,(r.1:Int),(r.2:Int)])
  |none=>(st,[-5])):=rfl
 rw[hst] at q
 unfold zK
 walk_at"rd"
 refine⟨_,dx,_,h1,T.bY,T.dW,_,fB _ _ _,as,rfl,_,gG,_,h4 _ _ ha,T.cW,T.iJ,_,j7 _ _ _ _ _,lc,rfl,_,.inl (au.of (h4 _ _ hc)),?_⟩
 rw[bT,List.length_map]
 by_cases c:8<st.scheme.relays.length
 ·rw[if_pos (by omega)]
  rw[if_pos c] at q
  exact⟨len1 _,fun p hp=>qM q pg hp⟩
 rw[if_neg (by omega)]
 rw[if_neg c] at q
 unfold Wh
 walk_at"rd"
 have hpow:2^st.scheme.relays.length≤256:=Nat.pow_le_pow_right (n:=2) (by decide) (show st.scheme.relays.length≤8 by omega)
 have hmul:2^st.scheme.relays.length*st.order.length≤256*12:=Nat.mul_le_mul hpow (by omega)
 refine⟨_,dx,_,h1,T.bY,T.dW,_,fB _ _ _,_,dx,_,h1,T.bY,T.gj,_,lD _ _ _,_,dx,_,h1,T.bY,T.j4,_,uw _ _ _,.ref as,st.scheme,st.x,o,st.order,d,n,rfl,pg.oH h2,by omega,h4 _ _ h3,by omega,h6.lt,by omega,fun w H2 nr dr ⟨m,p,hlp,a2,fJ,l2,ew,ha2,hl2⟩=>?_⟩
 subst ew
 have ha2':=bW _ _ _ _ ha2
 have hl2':=bW _ _ _ _ hl2
 have hm:=MP.Li hlp
 rw[MP.yK hlp] at q
 have hxl:((List.range (m+1)).map (MP.aX (pass st.scheme st.order) st.x)).length=m+1:=by rw[List.length_map,List.length_range]
 unfold Wg
 walk_at"rd"
 refine⟨⟨fJ,_,ha2',rfl⟩,.ref a2,_,p,rfl,⟨a2,fJ,l2,rfl,ha2',hl2'⟩,?_⟩
 rw[hxl]
 simp only[V.bl.injEq,exists_eq_left']
 by_cases cp:p=m
 ·rw[if_pos cp] at q
  rw[if_neg (by simp[cp])]
  unfold Wf Wd
  walk_at"rd"
  have hlast:gW (nV ((List.range (m+1)).map (MP.aX (pass st.scheme st.order) st.x))) (-1)=some (.int ((MP.aX (pass st.scheme st.order) st.x m:Nat):Int)):=by
   rw[List.range_succ,List.map_append,jh]
   exact zx _ _
  have hPa:a2≠P:=fun z=>by have:=(cu ha2).1;rw[z,h1] at this;cases this
  have hPl:l2≠P:=fun z=>by have:=(cu hl2).1;rw[z,h1] at this;cases this
  refine⟨_,fJ,_,ha2',T.iR,T.m7,_,tZ _ _,l2,rfl,?_⟩
  refine⟨_,au.of hl2',_,hlast,_,dx,_,nr.get dU h1,T.bY,T.gj,qe _ _ _,?_⟩
  rw[zj]
  refine⟨_,dx,_,aC,T.bY,T.gj,_,lD _ _ _,_,fJ,_,by rw[aH hPa];exact ha2',T.iR,T.m7,_,tZ _ _,l2,rfl,_,.inl (au.of (by rw[aH hPl];exact hl2')),alf _ _ _,fun p3 hp3=>?_⟩
  have qg:p3≠P:=fun e=>by subst e;rw[aC] at hp3;cases hp3
  have hp2:H2 p3=none:=by rw[aH qg] at hp3;exact hp3
  have hp':H p3=none:=nr.free dr.ne hp2
  have akW:∀k v,(MP.aX (pass st.scheme st.order) st.x k).testBit v=true→st.scheme.hasVar v=true:=fun k=>by
   induction k with
   |zero=>exact h6.bits
   |succ k ih=>exact Ka _ _ ih
  refine q _ G p3 d ((But.near nr).trans (((But.refl).upd).trans (But.same (bI hp3)))) hp' ?_ (((PG.put (st:={st with x:=MP.aX (pass st.scheme st.order) st.x m}) h2 h3 (fun b u e=>nr.get (bM e f9) (h4 b u e)) h5 f9 dU ⟨h6.well,h6.len,h6.lt,h6.nd,akW m⟩ dr).same (bI hp3)).le (by omega)) (fun b hb=>.inl hb) (h4.free hp') (.inl rfl) ((dr.put dU).upd hp3).ne
  rw[aC,bT,hxl]
  have:((m+1:Nat):Int) - 1=(m:Int):=by omega
  rw[this]
  rfl
 ·rw[if_neg cp] at q
  rw[if_pos (by simp[cp])]
  exact⟨len1 _,fun p3 hp3=>ji q pg nr dr (by omega) hp3⟩
theorem ad2(T:Tx K mg A)(vs:List V)(H:Hp)(Q:VK)(E:XK)(h:G3 K A vs H Q E):xY K A {nx:=fun _ H'=>Q .non H',rt:=Q} (L2.start ["program","scan"] vs) H:=by
 obtain⟨P,B,G,st,d,n,rfl,pg,hn,hB,q⟩:=h
 obtain⟨⟨dx,v,o,h1,h2,h3⟩,h4,h5,f9,dU,h6,h7⟩:=id pg
 show xY K A _ [some (.ref P),none] H
 obtain⟨as,gG,lc,lk,cs,ev,ha,hc,_⟩:=id h2
 subst ev
 have hrel:=h6.well.rel
 have hlen:=h6.len
 have hst:RungScanSeed.step st .round=(st,if 8<st.scheme.relays.length then [-9] else match Rung.comesRound st.scheme st.order st.x with
  |some r=>0::(r.1:Int)::RungScanSeed.nums r.2
  |none=>[-5]):=rfl
 rw[hst] at q
 unfold xY
 walk_at"rd"
 refine⟨_,dx,_,h1,T.bY,T.dW,_,fB _ _ _,as,rfl,_,gG,_,h4 _ _ ha,T.cW,T.iJ,_,j7 _ _ _ _ _,lc,rfl,_,.inl (au.of (h4 _ _ hc)),?_⟩
 rw[bT,List.length_map]
 by_cases c:8<st.scheme.relays.length
 ·rw[if_pos (by omega)]
  rw[if_pos c] at q
  exact⟨len1 _,fun p hp=>qM q pg hp⟩
 rw[if_neg (by omega)]
 rw[if_neg c] at q
 unfold RN
 walk_at"rd"
 have hpow:2^st.scheme.relays.length≤256:=Nat.pow_le_pow_right (n:=2) (by decide) (show st.scheme.relays.length≤8 by omega)
 have hmul:2^st.scheme.relays.length*st.order.length≤256*12:=Nat.mul_le_mul hpow (by omega)
 refine⟨_,dx,_,h1,T.bY,T.dW,_,fB _ _ _,_,dx,_,h1,T.bY,T.gj,_,lD _ _ _,_,dx,_,h1,T.bY,T.j4,_,uw _ _ _,.ref as,st.scheme,st.x,o,st.order,d,n,rfl,pg.oH h2,by omega,h4 _ _ h3,by omega,h6.lt,by omega,fun w H2 nr dr ⟨m,p,hlp,a2,fJ,l2,ew,ha2,hl2⟩=>?_⟩
 subst ew
 have ha2':=bW _ _ _ _ ha2
 have hl2':=bW _ _ _ _ hl2
 have hm:=MP.Li hlp
 rw[MP.Tn hlp] at q
 have hxl:((List.range (m+1)).map (MP.aX (pass st.scheme st.order) st.x)).length=m+1:=by rw[List.length_map,List.length_range]
 unfold RM
 walk_at"rd"
 refine⟨⟨fJ,_,ha2',rfl⟩,.ref a2,_,p,rfl,⟨a2,fJ,l2,rfl,ha2',hl2'⟩,?_⟩
 rw[hxl]
 simp only[V.bl.injEq,exists_eq_left']
 by_cases cp:p=m
 ·rw[if_pos cp] at q
  rw[if_pos (by simp[cp])]
  exact⟨len1 _,fun p3 hp3=>ji q pg nr dr (by omega) hp3⟩
 ·rw[if_neg cp] at q
  rw[if_neg (by simp[cp])]
  unfold RL
  walk_at"rd"
  refine⟨_,fJ,_,ha2',T.iR,T.qC,_,K8 _ _,len2 _ _,fun p1 hp1=>?_⟩
  have s3:Same H2 (upd H2 p1 (.lst [.int 0,.int (p:Int)])):=bI hp1
  have iG:(upd H2 p1 (.lst [.int 0,.int (p:Int)])) p1=some (.lst [.int 0,.int (p:Int)]):=aC
  generalize (upd H2 p1 (.lst [.int 0,.int (p:Int)]))=H3 at s3 iG⊢
  refine⟨_,fJ,_,s3 _ _ ha2',T.iR,T.m7,_,tZ _ _,_,fJ,_,s3 _ _ ha2',T.iR,T.qC,_,K8 _ _,_,rfl,l2,rfl,_,au.of (s3 _ _ hl2'),fun p2 hp2=>?_⟩
  rw[KJ]
  have s4:Same H3 (upd H3 p2 (.lst ((nV ((List.range (m+1)).map (MP.aX (pass st.scheme st.order) st.x))).drop p))):=bI hp2
  have pP:(upd H3 p2 (.lst ((nV ((List.range (m+1)).map (MP.aX (pass st.scheme st.order) st.x))).drop p))) p2=some (.lst ((nV ((List.range (m+1)).map (MP.aX (pass st.scheme st.order) st.x))).drop p)):=aC
  generalize (upd H3 p2 (.lst ((nV ((List.range (m+1)).map (MP.aX (pass st.scheme st.order) st.x))).drop p)))=H4 at s4 pP⊢
  refine⟨_,s4 _ _ iG,_,pP,by rw[List.length_drop,bT,hxl,sizeLine_eq];simp only[List.length_cons,List.length_nil];omega,fun p5 Ow=>?_⟩
  have vZ:Near d H H4:=nr.trans (Near.of (s3.trans s4))
  have hq:=ji (p:=p5) q pg vZ (dr.same (s3.trans s4)) (by omega) Ow
  have e:(0::(p:Int)::RungScanSeed.nums (((List.range (m+1)).map (MP.aX (pass st.scheme st.order) st.x)).drop p)).map V.int=[V.int 0,.int (p:Int)]++(nV ((List.range (m+1)).map (MP.aX (pass st.scheme st.order) st.x))).drop p:=by
   rw[List.map_cons,List.map_cons,zq]
   unfold nV
   rw[List.map_drop]
   rfl
  rw[←e]
  exact hq
end
open Rung (pass moves unsure whyNot allStates hangsOn)
section
variable{K:PySem.W.Frag}{mg:Str→Option Value}{A:Ad}
theorem akh(T:Tx K mg A)(vs:List V)(H:Hp)(Q:VK)(E:XK)(h:Ma K A vs H Q E):Ab K A {nx:=fun _ H'=>Q .non H',rt:=Q} (L2.start ["program","relay"] vs) H:=by
 obtain⟨P,B,G,st,j,d,n,rfl,pg,hn,hB,q⟩:=h
 obtain⟨⟨dx,v,o,h1,h2,h3⟩,h4,h5,f9,dU,h6,h7⟩:=id pg
 show Ab K A _ [some (.ref P),some (.int j)] H
 obtain⟨as,gG,lc,lk,cs,ev,ha,hc,_⟩:=id h2
 subst ev
 have hrel:=h6.well.rel
 have hst:RungScanSeed.step st (.hang j)=(st,if RungScanSeed.within j st.scheme.relays.length=false then [-1] else if 6<st.scheme.used.length then [-9] else 0::RungScanSeed.nums (hangsOn st.scheme j.toNat)):=rfl
 rw[hst] at q
 unfold Ab
 walk_at"rd"
 by_cases c1:0≤j
 ·rw[if_pos c1]
  refine⟨_,dx,_,h1,T.bY,T.dW,_,fB _ _ _,as,rfl,_,gG,_,h4 _ _ ha,T.cW,T.iJ,_,j7 _ _ _ _ _,lc,rfl,_,.inl (au.of (h4 _ _ hc)),?_⟩
  rw[bT,List.length_map]
  have ew:RungScanSeed.within j st.scheme.relays.length=decide (j<(st.scheme.relays.length:Int)):=by
   unfold RungScanSeed.within
   rw[decide_eq_true c1,Bool.true_and]
  rw[ew] at q
  by_cases c2:j<(st.scheme.relays.length:Int)
  ·rw[decide_eq_true c2] at q⊢
   rw[if_neg (by simp)] at q⊢
   obtain⟨k,rfl⟩:∃k:Nat,j=(k:Int):=⟨j.toNat,by omega⟩
   rw[Int.toNat_natCast] at q
   unfold Xv
   walk_at"rd"
   refine⟨_,dx,_,h1,T.bY,T.dW,_,fB _ _ _,.ref as,st.scheme,d,rfl,h2.mono h4,h6.well,fun w H1 s1 e1=>?_⟩
   subst e1
   simp only[V.bl.injEq,exists_eq_left']
   by_cases c3:6<st.scheme.used.length
   ·rw[decide_eq_true c3,if_pos rfl]
    rw[if_pos c3] at q
    exact⟨len1 _,fun p hp=>ji q pg (Near.of s1) (h7.same s1) (by omega) hp⟩
   ·rw[decide_eq_false c3,if_neg (by simp)]
    rw[if_neg c3] at q
    unfold Xu
    walk_at"rd"
    refine⟨len1 _,fun p1 hp1=>?_⟩
    have s2:Same H1 (upd H1 p1 (.lst [.int 0])):=bI hp1
    have iG:(upd H1 p1 (.lst [.int 0])) p1=some (.lst [.int 0]):=aC
    generalize (upd H1 p1 (.lst [.int 0]))=H2 at s2 iG⊢
    have s12:=s1.trans s2
    have alG:p1≠d:=fun z=>h7.ne (by rw[←z];exact s1.free hp1)
    refine⟨_,dx,_,s12 _ _ h1,T.bY,T.dW,_,fB _ _ _,.ref as,st.scheme,k,d,n,rfl,(pg.oH h2).same s12,by omega,by omega,by omega,fun w H3 n3 d3 ⟨l,e3,hl⟩=>?_⟩
    subst e3
    have hlen:(hangsOn st.scheme k).length≤32:=by
     rw[←MP.Lk (show k<st.scheme.relays.length by omega)]
     exact Nat.le_trans (List.length_filter_le _ _) (Nat.le_trans (MP.JK _) (XF _))
    refine⟨l,rfl,_,n3.get alG iG,_,bW _ _ _ _ hl,by rw[bT,sizeLine_eq];simp only[List.length_cons,List.length_nil];omega,fun p hp=>?_⟩
    have hq:=ji (p:=p) q pg ((Near.of s12).trans n3) d3 (by omega) hp
    rw[List.map_cons,zq] at hq
    exact hq
  ·rw[decide_eq_false c2] at q⊢
   rw[if_pos rfl] at q⊢
   exact⟨len1 _,fun p hp=>qM q pg hp⟩
 ·rw[if_neg c1]
  have ew:RungScanSeed.within j st.scheme.relays.length=false:=by
   unfold RungScanSeed.within
   rw[decide_eq_false c1,Bool.false_and]
  rw[ew,if_pos rfl] at q
  exact⟨len1 _,fun p hp=>qM q pg hp⟩
theorem ad3(T:Tx K mg A)(vs:List V)(H:Hp)(Q:VK)(E:XK)(h:G5 K A vs H Q E):xZ K A {nx:=fun _ H'=>Q .non H',rt:=Q} (L2.start ["program","order"] vs) H:=by
 obtain⟨P,B,G,st,d,n,rfl,pg,hn,hB,q⟩:=h
 obtain⟨⟨dx,v,o,h1,h2,h3⟩,h4,h5,f9,dU,h6,h7⟩:=id pg
 show xZ K A _ [some (.ref P),none] H
 have hrel:=h6.well.rel
 have hst:RungScanSeed.step st .order=(st,if 6<st.scheme.used.length then [-9] else match Rung.order st.scheme with
  |some o=>0::RungScanSeed.nums o
  |none=>[-5]):=rfl
 have hsl:=YS h6 .order
 rw[hst] at q hsl
 unfold xZ
 walk_at"rd"
 refine⟨_,dx,_,h1,T.bY,T.dW,_,fB _ _ _,v,st.scheme,d,rfl,h2.mono h4,h6.well,fun w H1 s1 e1=>?_⟩
 subst e1
 simp only[V.bl.injEq,exists_eq_left']
 by_cases c3:6<st.scheme.used.length
 ·rw[decide_eq_true c3,if_pos rfl]
  rw[if_pos c3] at q
  exact⟨len1 _,fun p hp=>ji q pg (Near.of s1) (h7.same s1) (by omega) hp⟩
 ·rw[decide_eq_false c3,if_neg (by simp)]
  rw[if_neg c3] at q hsl
  unfold RT
  walk_at"rd"
  refine⟨_,dx,_,s1 _ _ h1,T.bY,T.dW,_,fB _ _ _,v,st.scheme,d,n,rfl,(pg.oH h2).same s1,by omega,by omega,fun w H2 n2 d2 r2=>?_⟩
  have nT:=(Near.of (d:=d) s1).trans n2
  unfold RQ
  cases ho:Rung.order st.scheme with
  |none=>
   rw[ho] at r2 q
   have e2:w= .non:=r2
   subst e2
   walk_at"rd"
   exact⟨len1 _,fun p hp=>ji q pg nT d2 (by omega) hp⟩
  |some od=>
   rw[ho] at r2 q hsl
   obtain⟨l,e2,hl⟩:=r2
   subst e2
   have hol:od.length≤300:=by
    have:=hsl
    simp only[List.length_cons,RungScanSeed.nums,List.length_map] at this
    omega
   unfold RP
   walk_at"rd"
   refine⟨len1 _,fun p1 hp1=>?_⟩
   have s3:Same H2 (upd H2 p1 (.lst [.int 0])):=bI hp1
   have iG:(upd H2 p1 (.lst [.int 0])) p1=some (.lst [.int 0]):=aC
   generalize (upd H2 p1 (.lst [.int 0]))=H3 at s3 iG⊢
   refine⟨_,iG,_,s3 _ _ (bW _ _ _ _ hl),by rw[bT,sizeLine_eq];simp only[List.length_cons,List.length_nil];omega,fun p hp=>?_⟩
   have hq:=ji (p:=p) q pg (nT.trans (Near.of s3)) (d2.same s3) (by omega) hp
   rw[List.map_cons,zq] at hq
   exact hq
theorem aki(T:Tx K mg A)(vs:List V)(H:Hp)(Q:VK)(E:XK)(h:Mg K A vs H Q E):Ac K A {nx:=fun _ H'=>Q .non H',rt:=Q} (L2.start ["program","relays","unsure"] vs) H:=by
 obtain⟨P,B,G,st,d,n,rfl,pg,hn,hB,q⟩:=h
 obtain⟨⟨dx,v,o,h1,h2,h3⟩,h4,h5,f9,dU,h6,h7⟩:=id pg
 show Ac K A _ [some (.ref P),none,none] H
 obtain⟨as,gG,lc,lk,cs,ev,ha,hc,_⟩:=id h2
 subst ev
 have hst:RungScanSeed.step st .sure=(st,if 5<st.scheme.relays.length∨8<st.scheme.inputs.length+st.scheme.relays.length then [-9] else match unsure st.scheme with
  |none=>[0,1]
  |some r=>[0,0,(r.1:Int),(r.2:Int)]):=rfl
 rw[hst] at q
 unfold Ac
 walk_at"rd"
 refine⟨_,dx,_,h1,T.bY,T.dW,_,fB _ _ _,as,rfl,_,gG,_,h4 _ _ ha,T.cW,T.iJ,_,j7 _ _ _ _ _,lc,rfl,_,.inl (au.of (h4 _ _ hc)),?_⟩
 rw[bT,List.length_map]
 unfold Xy
 walk_at"rd"
 have no:(5<st.scheme.relays.length∨8<st.scheme.inputs.length+st.scheme.relays.length)→[V.int (-9)].length≤sizeLine∧∀p,H p=none→Q (.ref p) (upd H p (.lst [.int (-9)])):=fun c=>by
  rw[if_pos c] at q
  exact⟨len1 _,fun p hp=>qM q pg hp⟩
 have go:¬(5<st.scheme.relays.length∨8<st.scheme.inputs.length+st.scheme.relays.length)→Kc K A {nx:=fun _ H'=>Q .non H',rt:=Q} [some (.ref P),some (.int (st.scheme.relays.length:Int)),none] H:=fun c=>by
  rw[if_neg c] at q
  unfold Kc
  walk_at"rd"
  refine⟨_,dx,_,h1,T.bY,T.dW,_,fB _ _ _,.ref as,st.scheme,d,n,rfl,pg.oH h2,by omega,by omega,by omega,fun w H2 n2 d2 r2=>?_⟩
  unfold Xx
  cases ho:unsure st.scheme with
  |none=>
   rw[ho] at r2 q
   have e2:w= .non:=r2
   subst e2
   walk_at"rd"
   exact⟨len2 _ _,fun p hp=>ji q pg n2 d2 (by omega) hp⟩
  |some u=>
   rw[ho] at r2 q
   obtain⟨l,e2,hl⟩:=r2
   subst e2
   unfold Xw
   walk_at"rd"
   refine⟨len2 _ _,fun p1 hp1=>?_⟩
   have s3:Same H2 (upd H2 p1 (.lst [.int 0,.int 0])):=bI hp1
   have iG:(upd H2 p1 (.lst [.int 0,.int 0])) p1=some (.lst [.int 0,.int 0]):=aC
   generalize (upd H2 p1 (.lst [.int 0,.int 0]))=H3 at s3 iG⊢
   exact⟨_,iG,_,s3 _ _ (bW _ _ _ _ hl),by simp[nV,sizeLine_eq],fun p hp=>ji (p:=p) q pg (n2.trans (Near.of s3)) (d2.same s3) (by omega) hp⟩
 by_cases c1:5<st.scheme.relays.length
 ·rw[if_pos (by omega)]
  exact no (.inl c1)
 ·rw[if_neg (by omega)]
  refine⟨_,dx,_,h1,T.bY,T.dW,_,fB _ _ _,as,rfl,_,gG,_,h4 _ _ ha,T.cW,T.wY,_,afI _ _ _ _ _,_,rfl,?_⟩
  by_cases c2:8<st.scheme.inputs.length+st.scheme.relays.length
  ·rw[if_pos (by omega)]
   exact no (.inr c2)
  ·rw[if_neg (by omega)]
   exact go (by omega)
end
open Rung (pass moves unsure whyNot allStates hangsOn)
theorem zL{s:Rung.Scheme}{o:List Nat}:o∈MP.dM s.relays.length↔o.Perm (List.range s.relays.length):=⟨MP.zc _ o,MP.Xb _ o⟩
def oM(s:Rung.Scheme)(x:Nat)(o:List Nat):Nat:=((Rung.scanned s o x).getD (0,0)).1
def iy(s:Rung.Scheme)(x:Nat)(o:List Nat):Bool:=(Rung.scanned s o x).isSome
theorem ah_{β:Type}(p:List Nat→Bool)(f:List Nat→β)(xs:List (List Nat)):((List.range xs.length).filter fun i=>p (xs.getD i [])).map (fun i=>f (xs.getD i []))=(xs.filter p).map f:=by
 have e:xs=(List.range xs.length).map fun i=>xs.getD i []:=by
  refine List.ext_getElem (by simp) fun i h1 h2=>?_
  simp[List.getD,h1]
 conv=>rhs;rw[e]
 rw[List.filter_map,List.map_map]
 rfl
theorem XM(s:Rung.Scheme)(x y:Nat):y∈((MP.dM s.relays.length).filter (iy s x)).map (oM s x)↔y∈(Rung.bySome s x).1:=by
 rw[List.mem_map,MP.mem_some]
 constructor
 ·rintro⟨o,ho,rfl⟩
  obtain⟨h1,h2⟩:=List.mem_filter.mp ho
  unfold iy at h2
  obtain⟨r,hr⟩:=Option.isSome_iff_exists.mp h2
  refine⟨o,zL.mp h1,r.2,?_⟩
  unfold oM
  rw[hr]
  rfl
 ·rintro⟨o,ho,n,hn⟩
  refine⟨o,List.mem_filter.mpr ⟨zL.mpr ho,by unfold iy;rw[hn];rfl⟩,?_⟩
  unfold oM
  rw[hn]
  rfl
theorem TX{α:Type}(p:α→Bool):∀l:List α,(l.filter p).length<l.length↔∃a∈l,p a=false
 | []=>by simp
 |a::r=>by
  have ih:=TX p r
  have hle:=List.length_filter_le p r
  rw[List.filter_cons]
  cases h:p a with
  |true=>
   simp only[if_true,List.length_cons]
   rw[Nat.add_lt_add_iff_right,ih]
   simp[h]
  |false=>
   simp only[Bool.false_eq_true,if_false,List.length_cons]
   exact⟨fun _=>⟨a,List.mem_cons_self ..,h⟩,fun _=>by omega⟩
theorem XQ(s:Rung.Scheme)(x:Nat):((MP.dM s.relays.length).filter (iy s x)).length<(MP.dM s.relays.length).length↔(Rung.bySome s x).2=true:=by
 rw[TX,MP.afr]
 constructor
 ·rintro⟨o,ho,h⟩
  refine⟨o,zL.mp ho,?_⟩
  unfold iy at h
  simpa using h
 ·rintro⟨o,ho,h⟩
  exact⟨o,zL.mpr ho,by unfold iy;rw[h];rfl⟩
section
variable{K:PySem.W.Frag}{mg:Str→Option Value}{A:Ad}
theorem akj(T:Tx K mg A)(vs:List V)(H:Hp)(Q:VK)(E:XK)(h:Mh K A vs H Q E):Ae K A {nx:=fun _ H'=>Q .non H',rt:=Q} (L2.start ["program","scans","rests","scan","round_too"] vs) H:=by
 obtain⟨P,B,G,st,d,n,rfl,pg,hn,hB,q⟩:=h
 obtain⟨⟨dx,v,o,h1,h2,h3⟩,h4,h5,f9,dU,h6,h7⟩:=id pg
 show Ae K A _ [some (.ref P),none,none,none,none] H
 obtain⟨as,gG,lc,lk,cs,ev,ha,hc,_⟩:=id h2
 subst ev
 have hst:RungScanSeed.step st .some_=(st,if 5<st.scheme.relays.length then [-9] else 0::RungScanSeed.flag (Rung.bySome st.scheme st.x).2::RungScanSeed.nums (Rung.bySome st.scheme st.x).1):=rfl
 rw[hst] at q
 unfold Ae
 walk_at"rd"
 refine⟨_,dx,_,h1,T.bY,T.dW,_,fB _ _ _,as,rfl,_,gG,_,h4 _ _ ha,T.cW,T.iJ,_,j7 _ _ _ _ _,lc,rfl,_,.inl (au.of (h4 _ _ hc)),?_⟩
 rw[bT,List.length_map]
 by_cases c:5<st.scheme.relays.length
 ·rw[if_pos (by omega)]
  rw[if_pos c] at q
  exact⟨len1 _,fun p hp=>qM q pg hp⟩
 rw[if_neg (by omega)]
 rw[if_neg c] at q
 unfold XD
 walk_at"rd"
 refine⟨_,dx,_,h1,T.bY,T.dW,_,fB _ _ _,_,dx,_,h1,T.bY,T.gj,_,lD _ _ _,.ref as,st.scheme,st.x,d,n,rfl,pg.oH h2,by omega,by omega,fun w H2 nr dr ⟨l,ws,ew,hl,pr⟩=>?_⟩
 subst ew
 have hl2:=bW _ _ _ _ hl
 have hwl:=d9 pr
 have hol:=MP.Kv st.scheme.relays.length (by omega)
 show XC K A _ [some (.ref P),some (.ref l),none,none,none] H2
 refine⟨_,rfl,l,rfl,⟨_,au.of hl2⟩,fun D hD=>?_⟩
 have key:∀(k:Nat) (y:V),ws[k]? =some y→∃(o:List Nat) (m p:Nat) (a2 fJ l2:Addr),(MP.dM st.scheme.relays.length)[k]? =some o∧MP.Loop (pass st.scheme o) st.x m p∧y= .ref a2∧H2 a2=some (.ins A.scan fJ (A_ l2 p))∧H2 l2=some (.lst (nV ((List.range (m+1)).map (MP.aX (pass st.scheme o) st.x)))):=fun k y hk=>by
  obtain⟨o,ho,m,p,hlp,a2,fJ,l2,rfl,g1,g2⟩:=gH pr hk
  exact⟨o,m,p,a2,fJ,l2,ho,hlp,rfl,bW _ _ _ _ g1,bW _ _ _ _ g2⟩
 refine lF (fun k=>iy st.scheme st.x ((MP.dM st.scheme.relays.length).getD k [])) (fun k y _=>y= .int ((oM st.scheme st.x ((MP.dM st.scheme.relays.length).getD k []):Nat):Int)) hD (au.of hl2) (fun k y Hc hk sm Qt g=>?_) (fun k y Hc hk hf sm Qe g=>?_) (fun _ _ _ _ _ p=>p) (by rw[sizeLine_eq];omega) fun ys H3 s3 hy lg=>?_
 ·obtain⟨o,m,p,a2,fJ,l2,ho,hlp,rfl,g1,g2⟩:=key k y hk
  rw[getD_some ho] at g
  have hxl:((List.range (m+1)).map (MP.aX (pass st.scheme o) st.x)).length=m+1:=by rw[List.length_map,List.length_range]
  refine⟨_,rfl,⟨a2,fJ,_,rfl,sm _ _ g1,rfl⟩,.ref a2,_,p,rfl,⟨a2,fJ,l2,rfl,sm _ _ g1,sm _ _ g2⟩,_,rfl,?_⟩
  have e:(!decide (p+1≠((List.range (m+1)).map (MP.aX (pass st.scheme o) st.x)).length))=iy st.scheme st.x o:=by
   unfold iy
   rw[hxl,MP.yK hlp]
   by_cases cp:p=m
   ·rw[if_pos cp]
    simp[cp]
   ·rw[if_neg cp]
    simp[cp]
  show Qt (!decide (p+1≠((List.range (m+1)).map (MP.aX (pass st.scheme o) st.x)).length)) Hc
  rw[e]
  exact g Hc (Same.refl _)
 ·obtain⟨o,m,p,a2,fJ,l2,ho,hlp,rfl,g1,g2⟩:=key k y hk
  rw[getD_some ho] at g hf
  have hlast:gW (nV ((List.range (m+1)).map (MP.aX (pass st.scheme o) st.x))) (-1)=some (.int ((MP.aX (pass st.scheme o) st.x m:Nat):Int)):=by
   rw[List.range_succ,List.map_append,jh]
   exact zx _ _
  refine⟨_,rfl,a2,_,fJ,_,_,rfl,sm _ _ g1,T.iR,T.m7,tZ _ _,_,rfl,l2,_,_,_,rfl,rfl,au.of (sm _ _ g2),hlast,g _ Hc (Same.refl _) ?_⟩
  unfold iy at hf
  unfold oM
  rw[MP.yK hlp] at hf⊢
  by_cases cp:p=m
  ·rw[if_pos cp]
   rfl
  ·rw[if_neg cp] at hf
   cases hf
 ·have ey:ys=nV (((MP.dM st.scheme.relays.length).filter (iy st.scheme st.x)).map (oM st.scheme st.x)):=by
   rw[lB lg,hwl,ah_ (iy st.scheme st.x) (fun o=>V.int ((oM st.scheme st.x o:Nat):Int)),nV]
   rw[List.map_map]
   rfl
  generalize hrs:((MP.dM st.scheme.relays.length).filter (iy st.scheme st.x)).map (oM st.scheme st.x)=rs at ey
  have hrl:rs.length=((MP.dM st.scheme.relays.length).filter (iy st.scheme st.x)).length:=by rw[←hrs,List.length_map]
  have alH:rs.length≤120:=by rw[hrl];exact Nat.le_trans (List.length_filter_le _ _) hol
  have n3:Near d H H3:=nr.trans (Near.of s3)
  have d3:=dr.same s3
  rw[ey] at hy
  show Kd K A _ [some (.ref P),some (.ref l),some (.ref D),none,none] H3
  unfold Kd
  walk_at"rd"
  refine⟨_,.inl (au.of hy),_,.inl (au.of (s3 _ _ hl2)),?_⟩
  have hfl:∀b:Int,b=RungScanSeed.flag (Rung.bySome st.scheme st.x).2→Xz K A {nx:=fun _ H'=>Q .non H',rt:=Q} [some (.ref P),some (.ref l),some (.ref D),none,some (.int b)] H3:=fun b eb=>by
   subst eb
   refine⟨_,rfl,len2 _ _,fun p1 hp1=>?_⟩
   have s4:Same H3 (upd H3 p1 (.lst [.int 0,.int (RungScanSeed.flag (Rung.bySome st.scheme st.x).2)])):=bI hp1
   have iG:(upd H3 p1 (.lst [.int 0,.int (RungScanSeed.flag (Rung.bySome st.scheme st.x).2)])) p1=some (.lst [.int 0,.int (RungScanSeed.flag (Rung.bySome st.scheme st.x).2)]):=aC
   generalize (upd H3 p1 (.lst [.int 0,.int (RungScanSeed.flag (Rung.bySome st.scheme st.x).2)]))=H4 at s4 iG⊢
   refine⟨_,rfl,D,rs.map (fun(n:Nat)=>(n:Int)),rfl,au.of (by rw[nZ];exact s4 _ _ hy),by rw[List.length_map];omega,fun ns' p2 i1 i2 hp2=>?_⟩
   obtain⟨l',e1,e2,e3⟩:=Wj (P:=fun v=>v∈rs) i1 fun k=>by
    rw[i2,List.mem_map]
    constructor
    ·rintro⟨v,hv,rfl⟩
     exact⟨v,rfl,hv⟩
    ·rintro⟨v,rfl,hv⟩
     exact⟨v,hv,rfl⟩
   have el:l'=(Rung.bySome st.scheme st.x).1:=MP.tW e2 (MP.Ig _ _) fun k=>by rw[e3,←hrs,XM]
   subst el
   subst e1
   rw[nZ]
   have s5:Same H4 (upd H4 p2 (.lst (nV (Rung.bySome st.scheme st.x).1))):=bI hp2
   have pP:(upd H4 p2 (.lst (nV (Rung.bySome st.scheme st.x).1))) p2=some (.lst (nV (Rung.bySome st.scheme st.x).1)):=aC
   generalize (upd H4 p2 (.lst (nV (Rung.bySome st.scheme st.x).1)))=H5 at s5 pP⊢
   have hbl:(Rung.bySome st.scheme st.x).1.length≤120:=Nat.le_trans (MP.sub_len (MP.yd (MP.Ig _ _)) fun k hk=>by rw[←hrs,XM];exact hk) alH
   refine⟨p1,p2,_,_,rfl,rfl,s5 _ _ iG,pP,by rw[bT,sizeLine_eq];simp only[List.length_cons,List.length_nil];omega,fun p3 hp3=>?_⟩
   have hq:=ji (p:=p3) q pg (n3.trans (Near.of (s4.trans s5))) (d3.same (s4.trans s5)) (by omega) hp3
   rw[List.map_cons,List.map_cons,zq] at hq
   exact hq
  rw[bT,hwl]
  by_cases cr:(Rung.bySome st.scheme st.x).2=true
  ·have:=(XQ st.scheme st.x).mpr cr
   rw[if_pos (by omega)]
   exact hfl 1 (by rw[cr];rfl)
  ·have:¬_:=fun z=>cr ((XQ st.scheme st.x).mp z)
   rw[if_neg (by omega)]
   refine hfl 0 ?_
   unfold RungScanSeed.flag
   rw[if_neg cr]
end
def Gx(K:PySem.W.Frag)(A:Ad):Sp:=fun vs H Q _=>∃(P R a dx:Addr) (B G:Hp) (st:Sd) (ns:List Int) (k k':Nat) (c:RungScanSeed.Call) (d:Addr) (n:Nat),vs=[.ref P,.ref R]∧PG A G H P st d n∧n≤1000000∧BR K A H R a ns k dx∧P≠R∧G R=none∧R≠d∧Sub B H∧B R≠none∧ns.length≤30000∧CallAt ns k c k'∧
 ∀H' G' l d',(∀b o,b≠P→b≠R→b≠d→H b=some o→H' b=some o)→H' R=some (.ins A.reader dx (cX a k'))→H l=none→H' l=some (.lst ((RungScanSeed.step st c).2.map V.int))→PG A G' H' P (RungScanSeed.step st c).1 d' (n+20000)→(∀b,G' b≠none→G b≠none∨B b=none)→G' l=none→(d'=d∨B d'=none)→H' d≠none→Q (.ref l) H'
def Bj(K:PySem.W.Frag):Sp:=fun vs H Q _=>∃(a:Addr) (ns:List Int),vs=[.ref a]∧au K H a (ns.map V.int)∧ns.length≤30000∧PyWqlgse.answers_asked ns=true∧∀H' p,H' p=some (.lst ((PyWqlgse.answers ns).map V.int))→Q (.ref p) H'
def Wm(K:PySem.W.Frag)(A:Ad):Sp:=Bj K
def Uu(K:PySem.W.Frag)(A:Ad):TS:=(iu (i_ K "list" zQ (aj 3) (ak (aj 4) aq)))
def Uv(K:PySem.W.Frag)(A:Ad):TS:=(aB (iu (i_ K "list" lM (aj 3) (ak (bU (fun xs H Q=>∃p ys,xs=[.ref p]∧(au K H p ys∨bK K H p ys)∧Q (.int ys.length) H) (ak (aj 4) aq)) aq))) (Uu K A))
def Uw(K:PySem.W.Frag)(A:Ad):TS:=(aL (aj 3))
def Ux(K:PySem.W.Frag)(A:Ad):TS:=(aB (rA (gA (tB (jD A.reader "at_end" (Fe K A) (aj 2) aq))) (aB (aY (aU (Gx K A) (ak (aj 1) (ak (aj 2) aq))) (aJ 4)) (Uv K A))) (Uw K A))
def Uy(K:PySem.W.Frag)(A:Ad):TS:=(aB (aY (bQ aq) (aJ 3)) (Ux K A))
def Uz(K:PySem.W.Frag)(A:Ad):TS:=(aB (aY (jW (J8 A) (ak (aj 0) aq)) (aJ 2)) (Uy K A))
def yQ(K:PySem.W.Frag)(A:Ad):TS:=(aB (aY (jW (Ju A) aq) (aJ 1)) (Uz K A))
theorem akk{K:PySem.W.Frag}{H H':Hp}{a:Addr}{xs:List V}(h:au K H a xs)(k:∀o,H a=some o→H' a=some o):au K H' a xs:=by
 rcases h with(z|⟨u,z⟩)|z
 ·exact .inl (.inl (k _ z))
 ·exact .inl (.inr ⟨u,k _ z⟩)
 ·exact .inr z
def abx(A:Ad)(a P R N dx:Addr)(H B:Hp)(ns tot:List Int):Nat→L2.St→Hp→Prop:=fun m σ Hc=>∃(k n:Nat) (st:Sd) (G:Hp) (out rest:List Int) (v4:Option V) (d:Addr) (nb:Nat),m=ns.length - k∧σ=[some (.ref a),some (.ref P),some (.ref R),some (.ref N),v4]∧
 PG A G Hc P st d nb∧nb+20000*n≤800000∧H d=none∧R≠d∧N≠d∧Hc R=some (.ins A.reader dx (cX a k))∧Same H Hc∧G R=none∧G N=none∧Sub B Hc∧Hc N=some (.lst (out.map V.int))∧Todo ns k st rest n∧tot=out++rest∧out.length+301*n≤12040
theorem PG.aji{A:Ad}{G H:Hp}{P N d:Addr}{st:Sd}{n:Nat}{o:HO}(h:PG A G H P st d n)(g:G N=none)(ne:P≠N)(nd:N≠d):PG A G (upd H N o) P st d n:=by
 obtain⟨⟨dx,v,oo,h1,h2,h3⟩,h4,h5,h6,h7,h8,h9⟩:=h
 exact⟨⟨dx,v,oo,by rw[aH ne];exact h1,h2,h3⟩,fun b u e=>by rw[aH (bM e g)];exact h4 b u e,h5,h6,h7,h8,h9.put nd⟩
theorem aia{H:Hp}{b:Addr}(h:H b≠none):∃o,H b=some o:=by
 cases e:H b with
 |none=>exact absurd e h
 |some o=>exact⟨o,rfl⟩
section
variable{K:PySem.W.Frag}{mg:Str→Option Value}{A:Ad}
theorem ag6(T:Tx K mg A)(vs:List V)(H:Hp)(Q:VK)(E:XK)(h:Wm K A vs H Q E):yQ K A {nx:=fun _ H'=>Q .non H',rt:=Q} (L2.start ["calls","program","reader","numbers","answer"] vs) H:=by
 obtain⟨a,ns,rfl,Dj,hlen,Og,q⟩:=h
 show yQ K A _ [some (.ref a),none,none,none,none] H
 unfold yQ
 walk_at"rd"
 refine⟨rfl,fun P H1 G d hP s1 pg hG hd0=>?_⟩
 unfold Uz
 walk_at"rd"
 refine⟨a,rfl,fun R dx hR hdx hdR=>?_⟩
 have hdP:dx≠P:=fun e=>by obtain⟨⟨_,_,_,h',_⟩,_⟩:=pg;subst e;rw[hdx] at h';cases h'
 have s2:Same H1 (upd (upd H1 dx (.own R)) R (.ins A.reader dx (cX a 0))):=cC (bI hdx) hR
 have jg:(upd (upd H1 dx (.own R)) R (.ins A.reader dx (cX a 0))) R=some (.ins A.reader dx (cX a 0)):=aC
 generalize (upd (upd H1 dx (.own R)) R (.ins A.reader dx (cX a 0)))=H2 at s2 jg⊢
 unfold Uy
 walk_at"rd"
 refine⟨Nat.zero_le _,fun N hN=>?_⟩
 obtain⟨B,e3,s3,hN3⟩:=ab (.lst []) hN
 rw[e3]
 obtain⟨n,hn,td⟩:=afU Og
 have hPB:∃o,B P=some o:=by obtain⟨⟨_,_,_,h',_⟩,_⟩:=pg;exact⟨_,s3 _ _ (s2 _ _ h')⟩
 have hP1:∃o,H1 P=some o:=by obtain⟨⟨_,_,_,h',_⟩,_⟩:=pg;exact⟨_,h'⟩
 have jZ:=s2.trans s3
 have Dk:=s3 _ _ jg
 have hRP:P≠R:=fun e=>by obtain⟨o,ho⟩:=hP1;subst e;rw[hR] at ho;cases ho
 have hNP:P≠N:=fun e=>by obtain⟨o,ho⟩:=hP1;subst e;rw[s2 _ _ ho] at hN;cases hN
 have hNR:R≠N:=fun e=>by subst e;rw[jg] at hN;cases hN
 have keep:∀Hc,Same H Hc→au K Hc a (ns.map V.int):=fun Hc s=>akk Dj fun o e=>s _ _ e
 have hHP:H P=none:=hP
 have hHR:H R=none:=s1.free hR
 have hHN:H N=none:=s1.free (s2.free hN)
 obtain⟨oP,hoP⟩:=hPB
 have hd1:=pg.d8.ne
 have m5:R≠d:=fun e=>hd1 (by rw[←e];exact hR)
 have mX:N≠d:=fun e=>hd1 (by rw[←e];exact s2.free hN)
 unfold Ux
 refine⟨abx A a P R N dx H B ns (PyWqlgse.answers ns),⟨_,0,n,RungScanSeed.start,G,[],PyWqlgse.answers ns,none,d,0,rfl,rfl,pg.same jZ,by omega,hd0,m5,mX,Dk,s1.trans jZ,pg.sub.free hR,pg.sub.free (s2.free hN),Sub.refl,hN3,td,rfl,by simp;omega⟩,?_⟩
 rintro m σ Hc ⟨k,n',st,G',out,rest,v4,d,nb,rfl,rfl,pg',hnb,hd0,m5,mX,O4,sm,gR,gN,sub,vV,td',aby,hle⟩
 walk_at"rd"
 refine⟨⟨dx,_,O4,rfl⟩,R,a,dx,ns,k,rfl,⟨O4,keep Hc sm⟩,?_⟩
 simp only[V.bl.injEq,exists_eq_left']
 by_cases c:ns.length≤k
 ·rw[decide_eq_true c,if_neg (by simp)]
  simp only[Uw]
  walk_at"rd"
  refine q Hc N ?_
  rw[vV,aby,ah4 td' c,List.append_nil]
 ·rw[decide_eq_false c,if_pos (by simp)]
  obtain⟨cc,k',n2,rest',en,hk',hcall,td2,er⟩:=ajb td' (by omega)
  refine⟨fun σ' H'=>∃m',m'<ns.length - k∧abx A a P R N dx H B ns (PyWqlgse.answers ns) m' σ' H',fun _ _ h=>h,?_⟩
  have alI:=pg'.ok
  have hsl:=YS alI cc
  refine⟨P,R,a,dx,B,G',st,ns,k,k',cc,d,nb,rfl,pg',by omega,⟨O4,keep Hc sm⟩,hRP,gR,m5,sub,by rw[Dk];simp,hlen,hcall,fun H4 G4 l d4 hb vY hl hl4 pg4 hG4 hGl vP alJ=>?_⟩
  have hN4:H4 N=some (.lst (out.map V.int)):=hb N _ (Ne.symm hNP) (Ne.symm hNR) mX vV
  have lN:l≠N:=fun e=>by subst e;rw[vV] at hl;cases hl
  have gN4:G4 N=none:=by
   cases e:G4 N with
   |none=>rfl
   |some o=>
    rcases hG4 N (by rw[e];simp) with z|z
    ·exact absurd gN z
    ·rw[hN3] at z;cases z
  have gR4:G4 R=none:=by
   cases e:G4 R with
   |none=>rfl
   |some o=>
    rcases hG4 R (by rw[e];simp) with z|z
    ·exact absurd gR z
    ·rw[Dk] at z;cases z
  have sJ:H d4=none:=by
   rcases vP with rfl|z
   ·exact hd0
   ·cases e:H d4 with
    |none=>rfl
    |some o=>rw[(s1.trans jZ) _ _ e] at z;cases z
  have alK:R≠d4:=by
   rcases vP with rfl|z
   ·exact m5
   ·exact fun e=>by rw[←e,Dk] at z;cases z
  have abz:N≠d4:=by
   rcases vP with rfl|z
   ·exact mX
   ·exact fun e=>by rw[←e,hN3] at z;cases z
  unfold Uv Uu
  walk_at"rd"
  refine⟨.inl ⟨_,au.of hN4⟩,_,.inl (au.of hl4),_,hN4,by rw[List.length_map,sizeLine_eq];omega,.inl ⟨_,au.of aC⟩,_,aC,_,by rw[aH lN];exact hl4,by simp[sizeLine_eq];omega,?_⟩
  rw[g8]
  refine⟨ns.length - k',by have:=td2.1;omega,k',n2,_,G4,out++(((RungScanSeed.step st cc).2.length:Int)::(RungScanSeed.step st cc).2),rest',_,d4,nb+20000,rfl,rfl,pg4.aji gN4 hNP abz,by omega,sJ,alK,abz,by rw[aH hNR];exact vY,?_,gR4,gN4,?_,?_,td2,?_,?_⟩
  ·intro b o e
   have b1:b≠P:=bM e hHP
   have b2:b≠R:=bM e hHR
   have b3:b≠N:=bM e hHN
   rw[aH b3]
   exact hb b o b1 b2 (bM e hd0) (sm b o e)
  ·intro b hb0
   cases e:B b with
   |none=>rfl
   |some o=>
    have h1:Hc b≠none:=fun z=>by have:=sub b z;rw[e] at this;cases this
    obtain⟨o1,ho1⟩:=aia h1
    by_cases b3:b=N
    ·subst b3;rw[aC] at hb0;cases hb0
    rw[aH b3] at hb0
    by_cases b1:b=P
    ·subst b1
     obtain⟨⟨_,_,_,h',_⟩,_⟩:=pg4
     rw[h'] at hb0;cases hb0
    by_cases b2:b=R
    ·subst b2;rw[vY] at hb0;cases hb0
    by_cases b4:b=d
    ·subst b4
     exact absurd hb0 alJ
    rw[hb b o1 b1 b2 b4 ho1] at hb0
    cases hb0
  ·rw[aC]
   simp[List.append_assoc]
  ·rw[aby,er,List.append_assoc]
  ·simp only[List.length_append,List.length_cons]
   omega
end
def aco(K:PySem.W.Frag)(A:Ad):TS:=Z1
def acp(K:PySem.W.Frag)(A:Ad):TS:=(aB (bB (aZ (aG dh (aj 2) (tC (V.int 12)))) (aL (aU (Mh K A) (ak (aj 0) aq))) bA) (aco K A))
def acq(K:PySem.W.Frag)(A:Ad):TS:=(aB (bB (aZ (aG dh (aj 2) (tC (V.int 11)))) (aL (aU (Mg K A) (ak (aj 0) aq))) bA) (acp K A))
def acr(K:PySem.W.Frag)(A:Ad):TS:=(aB (bB (aZ (aG dh (aj 2) (tC (V.int 10)))) (aL (aU (G5 K A) (ak (aj 0) aq))) bA) (acq K A))
def acs(K:PySem.W.Frag)(A:Ad):TS:=(aB (bB (aZ (aG dh (aj 2) (tC (V.int 9)))) (aL (aU (Ma K A) (ak (aj 0) (ak (jD A.reader "take_number" (qm K A) (aj 1) aq) aq)))) bA) (acr K A))
def acu(K:PySem.W.Frag)(A:Ad):TS:=(aB (bB (aZ (aG dh (aj 2) (tC (V.int 8)))) (aL (aU (G3 K A) (ak (aj 0) aq))) bA) (acs K A))
def acv(K:PySem.W.Frag)(A:Ad):TS:=(aB (bB (aZ (aG dh (aj 2) (tC (V.int 7)))) (aL (aU (K4 K A) (ak (aj 0) aq))) bA) (acu K A))
def acw(K:PySem.W.Frag)(A:Ad):TS:=(aB (bB (aZ (aG dh (aj 2) (tC (V.int 6)))) (aL (aU (KZ K A) (ak (aj 0) aq))) bA) (acv K A))
def acy(K:PySem.W.Frag)(A:Ad):TS:=(aB (bB (aZ (aG dh (aj 2) (tC (V.int 5)))) (aL (aU (HJ K A) (ak (aj 0) aq))) bA) (acw K A))
def ab4(K:PySem.W.Frag)(A:Ad):TS:=(aB (bB (aZ (aG dh (aj 2) (tC (V.int 4)))) (aL (aU (Mf K A) (ak (aj 0) aq))) bA) (acy K A))
def ab5(K:PySem.W.Frag)(A:Ad):TS:=(aB (bB (aZ (aG dh (aj 2) (tC (V.int 3)))) (aL (aU (Jv K A) (ak (aj 0) (ak (jD A.reader "take_list" (wC K A) (aj 1) aq) aq)))) bA) (ab4 K A))
def ab6(K:PySem.W.Frag)(A:Ad):TS:=(aB (bB (aZ (aG dh (aj 2) (tC (V.int 2)))) (aL (aU (HF K A) (ak (aj 0) (ak (jD A.reader "take_number" (qm K A) (aj 1) aq) aq)))) bA) (ab5 K A))
def ab7(K:PySem.W.Frag)(A:Ad):TS:=(aB (bB (aZ (aG dh (aj 2) (tC (V.int 1)))) (aL (aU (L_ K A) (ak (aj 0) (ak (jD A.reader "take_list" (wC K A) (aj 1) aq) aq)))) bA) (ab6 K A))
def xQ(K:PySem.W.Frag)(A:Ad):TS:=(aB (aY (jD A.reader "take_number" (qm K A) (aj 1) aq) (aJ 2)) (ab7 K A))
structure Taken(A:Ad)(H H1:Hp)(R a dx:Addr)(k':Nat):Prop where
 old:∀b o,b≠R→H b=some o→H1 b=some o
 at_:H1 R=some (.ins A.reader dx (cX a k'))
theorem Taken.free{A:Ad}{H H1:Hp}{R a dx:Addr}{k':Nat}(t:Taken A H H1 R a dx k'){b:Addr}(h:H1 b=none):H b=none:=by
 cases e:H b with
 |none=>rfl
 |some o=>
  by_cases c:b=R
  ·subst c;rw[t.at_] at h;cases h
  ·rw[t.old b o c e] at h;cases h
theorem Taken.pg{A:Ad}{G H H1:Hp}{P R a dx d:Addr}{k' n:Nat}{st:Sd}(t:Taken A H H1 R a dx k')(pg:PG A G H P st d n)(g:G R=none)(ne:P≠R)(nd:R≠d):PG A G H1 P st d n:=by
 obtain⟨⟨dx,v,oo,h1,h2,h3⟩,h4,h5,h6,h7,h8,h9⟩:=pg
 exact⟨⟨dx,v,oo,t.old _ _ ne h1,h2,h3⟩,fun b u e=>t.old _ _ (bM e g) (h4 b u e),h5,h6,h7,h8,h9.to (fun o e=>t.old _ _ (Ne.symm nd) e) (Nat.le_refl _)⟩
theorem Taken.sub{A:Ad}{B H H1:Hp}{R a dx:Addr}{k':Nat}(t:Taken A H H1 R a dx k')(s:Sub B H):Sub B H1:=fun b h=>s b (t.free h)
theorem Taken.done{A:Ad}{B G H H1:Hp}{P R a dx d:Addr}{k' n:Nat}{Q:VK}{r:Sd×List Int}(t:Taken A H H1 R a dx k')(ne:P≠R)(nd:R≠d)
 (fin:∀H' G' l d',(∀b o,b≠P→b≠R→b≠d→H b=some o→H' b=some o)→H' R=some (.ins A.reader dx (cX a k'))→H l=none→H' l=some (.lst (r.2.map V.int))→PG A G' H' P r.1 d' (n+20000)→(∀b,G' b≠none→G b≠none∨B b=none)→G' l=none→(d'=d∨B d'=none)→H' d≠none→Q (.ref l) H'):Done A B G H1 P d n Q r:=by
 intro H' G' l d' hb hl hl' pg hG hGl hd hdn
 exact fin H' G' l d' (fun b o h1 h2 h3 e=>hb b o h1 h3 (t.old b o h2 e)) (hb R _ (Ne.symm ne) nd t.at_) (t.free hl) hl' pg hG hGl hd hdn
theorem akl{A:Ad}{H:Hp}{R a dx:Addr}{k:Nat}:Taken A H (upd H R (.ins A.reader dx (cX a k))) R a dx k:=⟨fun b o h e=>by rw[aH h];exact e,aC⟩
theorem Taken.new{A:Ad}{H H1:Hp}{R a dx p:Addr}{k:Nat}{o:HO}(t:Taken A H H1 R a dx k)(h:H1 p=none):Taken A H (upd H1 p o) R a dx k:=⟨fun b u h' e=>by rw[aH (bM (t.old b u h' e) h)];exact t.old b u h' e,by rw[aH (bM t.at_ h)];exact t.at_⟩
theorem Taken.next{A:Ad}{H H1:Hp}{R a dx:Addr}{k j:Nat}(t:Taken A H H1 R a dx k):Taken A H (upd H1 R (.ins A.reader dx (cX a j))) R a dx j:=⟨fun b o h e=>by rw[aH h];exact t.old b o h e,aC⟩
section
variable{K:PySem.W.Frag}{mg:Str→Option Value}{A:Ad}
theorem no2{n c:Int}{p r:Option V}{t u:TS}{D:Ends}{H:Hp}(h:n≠c)(g:u D [p,r,some (.int n)] H):aB (bB (aZ (aG dh (aj 2) (tC (.int c)))) t bA) u D [p,r,some (.int n)] H:=by
 walk_at"rd"
 simp only[h,if_false]
 exact g
theorem is2{n:Int}{p r:Option V}{t u:TS}{D:Ends}{H:Hp}(g:t {D with nx:=u D} [p,r,some (.int n)] H):aB (bB (aZ (aG dh (aj 2) (tC (.int n)))) t bA) u D [p,r,some (.int n)] H:=by
 walk_at"rd"
 exact g
local macro_rules| `(tactic|walk_at"b7")=> `(tactic|((repeat refine no2 (by decide) ?_);refine is2 ?_;walk_at"rd"))
theorem adC(T:Tx K mg A)(vs:List V)(H:Hp)(Q:VK)(E:XK)(h:Gx K A vs H Q E):xQ K A {nx:=fun _ H'=>Q .non H',rt:=Q} (L2.start ["program","reader","call"] vs) H:=by
 obtain⟨P,R,a,dx,B,G,st,ns,k,k',c,d,nb,rfl,pg,hnb,⟨hR,Dj⟩,ne,gR,nd,sub,O1,hlen,hc,fin⟩:=h
 show xQ K A _ [some (.ref P),some (.ref R),none] H
 have t1:Taken A H (upd H R (.ins A.reader dx (cX a (k+1)))) R a dx (k+1):=akl
 have vo:au K (upd H R (.ins A.reader dx (cX a (k+1)))) a (ns.map V.int):=ZK hR Dj
 have m6:=t1.pg pg gR ne nd
 have mK:=t1.sub sub
 have first:∃n,ns[k]? =some n:=by cases hc<;>exact⟨_,‹ns[k]? =some _›⟩
 obtain⟨n,hn⟩:=first
 unfold xQ
 walk_at"rd"
 refine⟨⟨dx,_,hR,rfl⟩,R,a,dx,ns,k,n,rfl,⟨hR,Dj⟩,hn,?_⟩
 generalize (upd H R (.ins A.reader dx (cX a (k+1))))=H1 at t1 vo m6 mK⊢
 cases hc with
 |load m g1 g2 g3 g4=>
  rw[hn] at g1
  cases g1
  walk_at"b7"
  refine⟨⟨dx,_,t1.at_,rfl⟩,R,a,dx,ns,k+1,m,rfl,⟨t1.at_,vo⟩,g2,g3,fun p hp=>?_⟩
  have t2:=t1.next (j:=k+1+1+m)
  have hp2:(upd H1 R (.ins A.reader dx (cX a (k+1+1+m)))) p=none:=by rw[aH (fun e=>by subst e;rw[t1.at_] at hp;cases hp)];exact hp
  have t3:=t2.new (o:=.lst (((ns.drop (k+1+1)).take m).map V.int)) hp2
  exact⟨P,p,B,G,st,_,d,nb,rfl,t3.pg pg gR ne nd,t3.sub sub,by rw[aC,afV g4],by unfold ScanNeutral.bytesOf;rw[List.length_map,List.length_take];omega,t3.done ne nd fin⟩
 |set x g1 g2=>
  rw[hn] at g1
  cases g1
  walk_at"b7"
  refine⟨⟨dx,_,t1.at_,rfl⟩,R,a,dx,ns,k+1,x,rfl,⟨t1.at_,vo⟩,g2,?_⟩
  have t2:=t1.next (j:=k+1+1)
  exact⟨P,B,G,st,x,d,nb,rfl,t2.pg pg gR ne nd,t2.sub sub,t2.done ne nd fin⟩
 |arrange m g1 g2 g3=>
  rw[hn] at g1
  cases g1
  walk_at"b7"
  refine⟨⟨dx,_,t1.at_,rfl⟩,R,a,dx,ns,k+1,m,rfl,⟨t1.at_,vo⟩,g2,g3,fun p hp=>?_⟩
  have t2:=t1.next (j:=k+1+1+m)
  have hp2:(upd H1 R (.ins A.reader dx (cX a (k+1+1+m)))) p=none:=by rw[aH (fun e=>by subst e;rw[t1.at_] at hp;cases hp)];exact hp
  have t3:=t2.new (o:=.lst (((ns.drop (k+1+1)).take m).map V.int)) hp2
  exact⟨P,p,B,G,st,_,d,nb,rfl,t3.pg pg gR ne nd,t3.sub sub,aC,sub p (t2.free hp2),by rw[List.length_take];omega,t3.done ne nd fin⟩
 |told g1=>
  rw[hn] at g1
  cases g1
  walk_at"b7"
  exact⟨P,B,G,st,d,nb,rfl,m6,hnb,mK,t1.done ne nd fin⟩
 |pass g1=>
  rw[hn] at g1
  cases g1
  walk_at"b7"
  exact⟨P,B,G,st,d,nb,rfl,m6,hnb,mK,t1.done ne nd fin⟩
 |rungs g1=>
  rw[hn] at g1
  cases g1
  walk_at"b7"
  exact⟨P,B,G,st,d,nb,rfl,m6,hnb,mK,t1.done ne nd fin⟩
 |until_ g1=>
  rw[hn] at g1
  cases g1
  walk_at"b7"
  exact⟨P,B,G,st,d,nb,rfl,m6,hnb,mK,t1.done ne nd fin⟩
 |round g1=>
  rw[hn] at g1
  cases g1
  walk_at"b7"
  exact⟨P,B,G,st,d,nb,rfl,m6,hnb,mK,t1.done ne nd fin⟩
 |hang j g1 g2=>
  rw[hn] at g1
  cases g1
  walk_at"b7"
  refine⟨⟨dx,_,t1.at_,rfl⟩,R,a,dx,ns,k+1,j,rfl,⟨t1.at_,vo⟩,g2,?_⟩
  have t2:=t1.next (j:=k+1+1)
  exact⟨P,B,G,st,j,d,nb,rfl,t2.pg pg gR ne nd,hnb,t2.sub sub,t2.done ne nd fin⟩
 |order g1=>
  rw[hn] at g1
  cases g1
  walk_at"b7"
  exact⟨P,B,G,st,d,nb,rfl,m6,hnb,mK,t1.done ne nd fin⟩
 |sure g1=>
  rw[hn] at g1
  cases g1
  walk_at"b7"
  exact⟨P,B,G,st,d,nb,rfl,m6,hnb,mK,t1.done ne nd fin⟩
 |some_ g1=>
  rw[hn] at g1
  cases g1
  walk_at"b7"
  exact⟨P,B,G,st,d,nb,rfl,m6,hnb,mK,t1.done ne nd fin⟩
end
abbrev Dv(P:Program)(w:World)(K:PySem.W.Frag)(mg:Str→Option Value)(base:Heap)(k:Nat)(N:List Str)(q:Str)(st:Stmt)(rd:TS):Prop:=∀(f:Addr) (cdv:Value) (Ar:Around) (outer:List Env) (s:Shared) (H:Hp) (E:XK),cO k (Ar.deeper (envOfC q (aO st) s.heap.objs.size f cdv))→gC (mG jc P w K mg base N q (aO st) f cdv Ar outer s H E).pW (iQ st) rd
theorem bh{P:Program}{w:World}{K:PySem.W.Frag}{mg:Str→Option Value}{base:Heap}{k:Nat}{N ps:List Str}{q:Str}{st:Stmt}{rd:TS}(S:aW N ps (aO st))
 (h:∀(f:Addr) (cdv:Value) (Ar:Around) (outer:List Env) (s:Shared) (H:Hp) (E:XK),cO k (Ar.deeper (envOfC q (aO st) s.heap.objs.size f cdv))→aW N ps (aO st)→(Ar.deeper (envOfC q (aO st) s.heap.objs.size f cdv)).units+1<cLine→(Ar.deeper (envOfC q (aO st) s.heap.objs.size f cdv)).units+64<cLine→(Ar.deeper (envOfC q (aO st) s.heap.objs.size f cdv)).units+65<cLine→
   gC (mG jc P w K mg base N q (aO st) f cdv Ar outer s H E).pW (iQ st) rd):Dv P w K mg base k N q st rd:=fun f cdv Ar outer s H E hr=>h f cdv Ar outer s H E hr S (akC hr) hr.units (aiO hr)
abbrev Rg(sp:Sp)(rd:TS)(N:List Str):Prop:=∀vs H Q E,sp vs H Q E→rd {nx:=fun _ H'=>Q .non H',rt:=Q} (L2.start N vs) H
abbrev Ln(sp:Sp)(n:Nat):Prop:=∀vs H Q E,sp vs H Q E→vs.length=n
abbrev Bd(x q:Str)(st:Stmt)(ps:List Str):Prop:=∀(kV doc pm:Value) (an:Option Addr) (cdv ct:Value) (us:List Value),us.length=ps.length→bindArgs (PySem.W.fnOf x q (lR st) (iQ st) (aO st) .none kV doc pm an cdv ct) ⟨us,[]⟩=pure (ps.zip us)
theorem Bk{P:Program}{w:World}{K:PySem.W.Frag}{mg:Str→Option Value}{base:Heap}{C:Addr}{m q:Str}{st:Stmt}{N ps:List Str}{k:Nat}{sp:Sp}{rd:TS}(cl:Cls K C)(t:∃f fd,Meth K C m f∧fu K m q st f fd)(S:aW N ps (aO st))(hb:Bd m q st ps)(len:Ln sp ps.length)(dv:Dv P w K mg base k N q st rd)(hrd:Rg sp rd N):Ct P w K mg base (k+1) C m sp:=by
 obtain⟨f,fd,M,F⟩:=t
 exact⟨f,fd,ps,cl,M,F.ok S len fun cdv A outer s H vs Q E hr h=>⟨rd,dv f cdv A outer s H E hr,hrd vs H Q E h⟩,F.binds hb⟩
theorem rT{P:Program}{w:World}{K:PySem.W.Frag}{mg:Str→Option Value}{base:Heap}{C:Addr}{x q:Str}{st:Stmt}{N ps:List Str}{k:Nat}{sp:Sp}{rd:TS}{oA:List V→Hp→VK→Prop}(i:∃f fd,Mk K C f∧fu K "__init__" q st f fd)(hm:mg x=some (.ref C))(S:aW N ps (aO st))(hb:Bd "__init__" q st ps)(len:Ln sp ps.length)(dv:Dv P w K mg base k N q st rd)(hrd:Rg sp rd N)
 (new:∀vs H Q,oA vs H Q→∀x dx,H x=none→H dx=none→dx≠x→sp (.ref x::vs) (upd (upd H dx (.own x)) x (.ins C dx [])) (fun v H2=>v= .non∧Q (.ref x) H2) E0):Cm P w K mg base (k+1) x oA:=by
 obtain⟨f,fd,M,F⟩:=i
 exact⟨C,f,fd,ps,sp,M,F.ok S len fun cdv A outer s H vs Q E hr h=>⟨rd,dv f cdv A outer s H E hr,hrd vs H Q E h⟩,hm,F.binds hb,new⟩
local macro_rules| `(tactic|walk_at"sc")=> `(tactic|exact⟨rfl,rfl,rfl,by decide+kernel,rfl,by decide+kernel,by decide+kernel⟩)
local macro_rules| `(tactic|walk_at"ln")=> `(tactic|(intro vs H Q E h;repeat first|(obtain⟨e,_⟩:=h;subst e;rfl)|(obtain⟨_,h⟩:=h)))
local macro_rules| `(tactic|walk_at"b0")=> `(tactic|exact fun _ _ _ _ _ _ us hl=>match us,(id hl:us.length=0) with| [],_=>rfl)
local macro_rules| `(tactic|walk_at"b1")=> `(tactic|exact fun _ _ _ _ _ _ us hl=>match us,(id hl:us.length=1) with| [_],_=>rfl)
local macro_rules| `(tactic|walk_at"b2")=> `(tactic|exact fun _ _ _ _ _ _ us hl=>match us,(id hl:us.length=2) with| [_,_],_=>rfl)
local macro_rules| `(tactic|walk_at"b3")=> `(tactic|exact fun _ _ _ _ _ _ us hl=>match us,(id hl:us.length=3) with| [_,_,_],_=>rfl)
local macro_rules| `(tactic|walk_at"b4")=> `(tactic|exact fun _ _ _ _ _ _ us hl=>match us,(id hl:us.length=4) with| [_,_,_,_],_=>rfl)
local macro_rules| `(tactic|walk_at"b5")=> `(tactic|exact fun _ _ _ _ _ _ us hl=>match us,(id hl:us.length=5) with| [_,_,_,_,_],_=>rfl)
local macro_rules| `(tactic|walk_at"b6")=> `(tactic|exact fun _ _ _ _ _ _ us hl=>match us,(id hl:us.length=6) with| [_,_,_,_,_,_],_=>rfl)
section
variable{P:Program}{w:World}{K:PySem.W.Frag}{mg:Str→Option Value}{base:Heap}{A:Ad}
theorem Vq:aW ["self","rank","name","nodes","opener"] ["self","rank","name","nodes","opener"] (aO (inClass (top 12) 0)):=by walk_at"sc"
theorem aeX(T:Tx K mg A):Dv P w K mg base 0 ["self","rank","name","nodes","opener"] "Row.__init__" (inClass (top 12) 0) (yI K A):=bh Vq fun _ _ _ _ _ _ _ hr S hu bf bw=>(aD (dB (pv 0) (pv 1) rfl) (aD (dB (pv 0) (pv 2) rfl) (aD (dB (pv 0) (pv 3) rfl) (aF (dB (pv 0) (pv 4) rfl)))))
theorem Ny(T:Tx K mg A):Cm P w K mg base 1 "Row" (Ak A):=rT T.Nt T.Nr Vq (by walk_at"b5") (fun _ _ _ _ h=>K6 h) (aeX T) (afT T) K5
theorem Wn:aW ["byte"] ["byte"] (aO (top 13)):=by walk_at"sc"
theorem af3(T:Tx K mg A):Dv P w K mg base 0 ["byte"] "sign_of" (top 13) (yN K A):=bh Wn fun _ _ _ _ _ _ _ hr S hu bf bw=>(aD (bD (uy jP jP aK (pv 0) aK) (aF (aM (cA Ag (bL (by rfl) T.uq) (b_ rB (pv 0) aK) (fun _ _=>rfl)))) bC) (aD (bD (uy jP jP aK (pv 0) aK) (aF (aM (cA Ag (bL (by rfl) T.zF) (b_ rB (pv 0) aK) (fun _ _=>rfl)))) bC) (aD (bD (bH dJ (pv 0) aK (bG _)) (aF (aM fW)) bC) (aD (bD (bH dJ (pv 0) aK (bG _)) (aF (aM fW)) bC) (aF (aM (bL (by rfl) T.JQ)))))))
theorem ag7(T:Tx K mg A):Ce P w K mg base 1 "sign_of" ["byte"] Jj:=T.JR.ce Wn (by walk_at"b1") (by walk_at"ln") (af3 T) (agN T)
theorem Wo:aW ["part","sign"] ["part"] (aO (top 14)):=by walk_at"sc"
theorem af4(T:Tx K mg A):Dv P w K mg base 0 ["part","sign"] "is_name" (top 14) (yO K A):=bh Wo fun _ _ _ _ _ _ _ hr S hu bf bw=>(aD (bD (PW.pt (jO (ig (uy jP jP aK (bZ Hf (by rfl) T.cF PySem.boot_len (ao (pv 0) aA)) (bL (by rfl) T.Gd))) (pq (bH adq (cA Ag (pv 0) aK (fun _ _=>rfl)) (bL (by rfl) T.uq) (by with_unfolding_all rfl))))) (aF (aM jm)) bC) (aF (aM (bZ (Ah rfl) (by rfl) T.rP yV (ao (gn rfl S.nd (ajK (pv 0)) (dN (own:=[("sign",1)]) (by kernel_rfl)) (fun _ _ _ _ _=>(bN (i:=1) S.nd rfl (by first|exact Or.inl rfl|exact Or.inr rfl) (by first|exact Or.inl rfl|exact Or.inr rfl))) (fun _ _ _ _ _=>gK) (fun _ _ _ _ _=>(aku (oZ VD (pv 1) (bL (by rfl) T.uq) (by with_unfolding_all rfl)) (ajx (oZ VD (pv 1) (bL (by rfl) T.zF) (by with_unfolding_all rfl)))))) aA)))))
theorem Ke(T:Tx K mg A):Ce P w K mg base 1 "is_name" ["part"] tX:=T.JT.ce Wo (by walk_at"b1") (by walk_at"ln") (af4 T) (agO T)
theorem UG:aW ["part","least","greatest"] ["part","least","greatest"] (aO (top 15)):=by walk_at"sc"
theorem ad4(T:Tx K mg A):Dv P w K mg base 0 ["part","least","greatest"] "is_number" (top 15) (yj K A):=bh UG fun _ _ _ _ _ _ _ hr S hu bf bw=>(aD (bD (PW.pt (jO (ig (fC (akB F.slot_str_isdigit F.type_str_isdigit afe (pv 0)))) (pq (bH iw (bZ Hf (by rfl) T.cF PySem.boot_len (ao (pv 0) aA)) (bL (by rfl) T.GF) (bG _))))) (aF (aM jm)) bC) (aD (bD (PW.pt (Z0 (bH iw (bZ Hf (by rfl) T.cF PySem.boot_len (ao (pv 0) aA)) aK (bG _)) (Y7 (bH dJ (cA Ag (pv 0) aK (fun _ _=>rfl)) fW (bG _))))) (aF (aM jm)) bC) (aF (aM (ahf jP jP (pv 1) (uc yc (by rfl) T.rQ yW (ao (pv 0) aA)) (pv 2))))))
theorem Vr(T:Tx K mg A):Ce P w K mg base 1 "is_number" ["part","least","greatest"] yg:=T.Ii.ce UG (by walk_at"b3") (by walk_at"ln") (ad4 T) (aeG T)
theorem Wq:aW ["part"] ["part"] (aO (top 16)):=by walk_at"sc"
theorem af5(T:Tx K mg A):Dv P w K mg base 1 ["part"] "is_node" (top 16) (V5 K A):=bh Wq fun _ _ _ _ _ _ _ hr S hu bf bw=>(aF (aM (aV (Vr T) hr (ao (pv 0) (ao aK (ao (bL (by rfl) T.wW) aA))))))
theorem Kf(T:Tx K mg A):Ce P w K mg base 2 "is_node" ["part"] tY:=T.JV.ce Wq (by walk_at"b1") (by walk_at"ln") (af5 T) (agM T)
theorem TY:aW ["parts","words","ticks","part"] ["parts"] (aO (top 17)):=by walk_at"sc"
theorem adD(T:Tx K mg A):Dv P w K mg base 1 ["parts","words","ticks","part"] "are_delays" (top 17) (GD K A):=bh TY fun _ _ _ _ _ _ _ hr S hu bf bw=>(aD (bF (i:=1) S.nd rfl (by first|exact Or.inl rfl|exact Or.inr rfl) (W7 (pv 0) (jL aK) nH)) (aD (bF (i:=2) S.nd rfl (by first|exact Or.inl rfl|exact Or.inr rfl) (W7 (pv 0) (jL aK) nH)) (aD (bD (PW.pt (jO (bH (agr bw) (pv 1) (Z5 (ao (bR aA) (ao (bR (ao fW aA)) (ao (bR (ao fW aA)) (ao (bR (ao fW (ao fW aA))) aA))))) (by with_unfolding_all rfl)) (pq (bH iT (bZ cR (by rfl) T.cF PySem.boot_len (ao (pv 2) aA)) (bZ cR (by rfl) T.cF PySem.boot_len (ao (pv 1) aA)) (bG _))))) (aF (aM jm)) bC) (aF (aM (bZ (Ah rfl) (by rfl) T.rP yV (ao (gn rfl S.nd (cY (pv 2)) (dN (own:=[("part",3)]) (by kernel_rfl)) (fun _ _ _ _ _=>(bN (i:=3) S.nd rfl (by first|exact Or.inl rfl|exact Or.inr rfl) (by first|exact Or.inl rfl|exact Or.inr rfl))) (fun _ _ _ _ _=>gK) (fun _ _ _ _ _=>(aV (Vr T) hr (ao (pv 3) (ao aK (ao (bL (by rfl) T.Es) aA)))))) aA)))))))
theorem ad5(T:Tx K mg A):Ce P w K mg base 2 "are_delays" ["parts"] Gy:=T.Hr.ce TY (by walk_at"b1") (by walk_at"ln") (adD T) (adX T)
theorem T3:aW ["parts"] ["parts"] (aO (top 18)):=by walk_at"sc"
theorem adE(T:Tx K mg A):Dv P w K mg base 2 ["parts"] "read_input" (top 18) (xV K A):=bh T3 fun _ _ _ _ _ _ _ hr S hu bf bw=>(aD (bD (PW.pt (jO (bH iT (bZ cR (by rfl) T.cF PySem.boot_len (ao (pv 0) aA)) aK (bG _)) (pq (ig (fC (aV (Ke T) hr (ao (cA cG (pv 0) aK (fun _ _=>rfl)) aA))))))) (aF (aM fL)) bC) (aF (aM (pG (Ny T) hr (ao (bL (by rfl) T.o9) (ao (cA cG (pv 0) aK (fun _ _=>rfl)) (ao (bR aA) (ao aK aA))))))))
theorem ad6(T:Tx K mg A):Ce P w K mg base 3 "read_input" ["parts"] (Gz A):=T.Hs.ce T3 (by walk_at"b1") (by walk_at"ln") (adE T) (adV T)
theorem UJ:aW ["parts","rank"] ["parts","rank"] (aO (top 19)):=by walk_at"sc"
theorem ad7(T:Tx K mg A):Dv P w K mg base 2 ["parts","rank"] "read_coil" (top 19) (yp K A):=bh UJ fun _ _ _ _ _ _ _ hr S hu bf bw=>(aD (bD (PW.pt (jO (bH iT (bZ cR (by rfl) T.cF PySem.boot_len (ao (pv 0) aA)) aK (bG _)) (jO (ig (fC (aV (Ke T) hr (ao (cA cG (pv 0) aK (fun _ _=>rfl)) aA)))) (jO (bH iT (cA cG (pv 0) aK (fun _ _=>rfl)) fW (bG _)) (pq (ig (fC (aV (Kf T) hr (ao (cA cG (pv 0) aK (fun _ _=>rfl)) aA))))))))) (aF (aM fL)) bC) (aF (aM (pG (Ny T) hr (ao (pv 1) (ao (cA cG (pv 0) aK (fun _ _=>rfl)) (ao (bR (ao (uc yc (by rfl) T.rQ yW (ao (cA cG (pv 0) aK (fun _ _=>rfl)) aA)) aA)) (ao aK aA))))))))
theorem Vs(T:Tx K mg A):Ce P w K mg base 3 "read_coil" ["parts","rank"] (yh A):=T.Ij.ce UJ (by walk_at"b2") (by walk_at"ln") (ad7 T) (aeH T)
theorem T4:aW ["parts"] ["parts"] (aO (top 20)):=by walk_at"sc"
theorem adF(T:Tx K mg A):Dv P w K mg base 3 ["parts"] "read_relay" (top 20) (xW K A):=bh T4 fun _ _ _ _ _ _ _ hr S hu bf bw=>(aD (bD (ig (fC (aV (ad5 T) hr (ao (oX o7 (pv 0) (jL aK) nH) aA)))) (aF (aM fL)) bC) (aF (aM (aV (Vs T) hr (ao (oX o7 (pv 0) nH (jL aK)) (ao (bL (by rfl) T.q_) aA))))))
theorem ad8(T:Tx K mg A):Ce P w K mg base 4 "read_relay" ["parts"] (GC A):=T.Ht.ce T4 (by walk_at"b1") (by walk_at"ln") (adF T) (adW T)
theorem RV:aW ["parts","opener","nodes"] ["parts","opener"] (aO (top 21)):=by walk_at"sc"
theorem acK(T:Tx K mg A):Dv P w K mg base 2 ["parts","opener","nodes"] "read_contact" (top 21) (wV K A):=bh RV fun _ _ _ _ _ _ _ hr S hu bf bw=>(aD (bD (PW.pt (jO (bH iT (bZ cR (by rfl) T.cF PySem.boot_len (ao (pv 0) aA)) aK (bG _)) (jO (ig (fC (aV (Ke T) hr (ao (cA cG (pv 0) aK (fun _ _=>rfl)) aA)))) (jO (ig (fC (aV (Kf T) hr (ao (cA cG (pv 0) aK (fun _ _=>rfl)) aA)))) (pq (ig (fC (aV (Kf T) hr (ao (cA cG (pv 0) aK (fun _ _=>rfl)) aA))))))))) (aF (aM fL)) bC) (aD (bF (i:=2) S.nd rfl (by first|exact Or.inl rfl|exact Or.inr rfl) (bR (ao (uc yc (by rfl) T.rQ yW (ao (cA cG (pv 0) aK (fun _ _=>rfl)) aA)) (ao (uc yc (by rfl) T.rQ yW (ao (cA cG (pv 0) aK (fun _ _=>rfl)) aA)) aA)))) (aD (bD (bH Nk (cA cG (pv 2) aK (fun _ _=>rfl)) (cA cG (pv 2) aK (fun _ _=>rfl)) (bG _)) (aF (aM fL)) bC) (aF (aM (pG (Ny T) hr (ao (bL (by rfl) T.qK) (ao (cA cG (pv 0) aK (fun _ _=>rfl)) (ao (pv 2) (ao (pv 1) aA))))))))))
theorem Tc(T:Tx K mg A):Ce P w K mg base 3 "read_contact" ["parts","opener"] (wU A):=T.Gi.ce RV (by walk_at"b2") (by walk_at"ln") (acK T) (acZ T)
theorem UL:aW ["line","parts"] ["line"] (aO (top 22)):=by walk_at"sc"
theorem ad9(T:Tx K mg A):Dv P w K mg base 4 ["line","parts"] "read_line" (top 22) (yq K A):=bh UL fun _ _ _ _ _ _ _ hr S hu bf bw=>(aD (bF (i:=1) S.nd rfl (by first|exact Or.inl rfl|exact Or.inr rfl) (Yc (pv 0) fW)) (aD (bD (bH dJ (cA cG (pv 1) aK (fun _ _=>rfl)) fW (bG _)) (aF (aM (aV (ad6 T) hr (ao (pv 1) aA)))) bC) (aD (bD (bH dJ (cA cG (pv 1) aK (fun _ _=>rfl)) fW (bG _)) (aF (aM (aV (ad8 T) hr (ao (pv 1) aA)))) bC) (aD (bD (bH dJ (cA cG (pv 1) aK (fun _ _=>rfl)) fW (bG _)) (aF (aM (aV (Vs T) hr (ao (pv 1) (ao (bL (by rfl) T.MF) aA))))) bC) (aD (bD (bH dJ (cA cG (pv 1) aK (fun _ _=>rfl)) fW (bG _)) (aF (aM (aV (Tc T) hr (ao (pv 1) (ao aK aA))))) bC) (aD (bD (bH dJ (cA cG (pv 1) aK (fun _ _=>rfl)) fW (bG _)) (aF (aM (aV (Tc T) hr (ao (pv 1) (ao aK aA))))) bC) (aF (aM fL))))))))
theorem aeY(T:Tx K mg A):Ce P w K mg base 5 "read_line" ["line"] (Hj A):=T.Ik.ce UL (by walk_at"b1") (by walk_at"ln") (ad9 T) (aeI T)
theorem UW:aW ["text","lines","byte","rows","line"] ["text"] (aO (top 23)):=by walk_at"sc"
theorem ad_(T:Tx K mg A):Dv P w K mg base 5 ["text","lines","byte","rows","line"] "read_text" (top 23) (yr K A):=bh UW fun _ _ _ _ _ _ _ hr S hu bf bw=>(aD (bF (i:=1) S.nd rfl (by first|exact Or.inl rfl|exact Or.inr rfl) (Yc (aiy fW (gn rfl S.nd (cY (pv 0)) (dN (own:=[("byte",2)]) (by kernel_rfl)) (fun _ _ _ _ _=>(bN (i:=2) S.nd rfl (by first|exact Or.inl rfl|exact Or.inr rfl) (by first|exact Or.inl rfl|exact Or.inr rfl))) (fun _ _ _ _ _=>gK) (fun _ _ _ _ _=>(aV (ag7 T) hr (ao (pv 2) aA))))) fW)) (aD (nj (i:=3) rfl S.nd rfl rfl (nJ rfl rfl rfl rfl) (cY (oX o7 (pv 1) nH (jL (rG uM aK)))) (dN (own:=[("line",4)]) (by kernel_rfl)) (fun _ _ _ _ _=>(bN (i:=4) S.nd rfl (by first|exact Or.inl rfl|exact Or.inr rfl) (by first|exact Or.inl rfl|exact Or.inr rfl))) (fun _ _ _ _ _=>gK) (fun _ _ _ _ _=>(aV (aeY T) hr (ao (pv 4) aA)))) (aD (bD (bH iT (cA cG (pv 1) (rG uM aK) (fun _ _=>rfl)) fW (bG _)) (aF (jK (jQ PySem.F.plainAttrs_list PySem.F.slot_list_append PySem.F.type_list_append oV (pv 3) (ao fL aA)))) bC) (aF (aM (pv 3))))))
theorem aeZ(T:Tx K mg A):Ce P w K mg base 6 "read_text" ["text"] (Hl K A):=T.Il.ce UW (by walk_at"b1") (by walk_at"ln") (ad_ T) (aeK T)
end
section
variable{P:Program}{w:World}{K:PySem.W.Frag}{mg:Str→Option Value}{base:Heap}{A:Ad}
theorem QV:aW ["rows","line","row"] ["rows"] (aO (top 26)):=by walk_at"sc"
theorem ab8(T:Tx K mg A):Dv P w K mg base 0 ["rows","line","row"] "shapeless_line" (top 26) (Ej K A):=bh QV fun _ _ _ _ _ _ _ hr S hu bf bw=>(aD (fD PassesOwn.never rfl (nO (by rfl) T.jG (ao (pv 0) aA)) (lX rfl (fK (bN (i:=1) S.nd rfl (Or.inl rfl)) (fK (bN (i:=2) S.nd rfl (Or.inl rfl)) lK))) (aF (bD (bH Mq (pv 2) fL (bG _)) (aF (aM (pv 1))) bC))) (aF (aM fL)))
theorem acz(T:Tx K mg A):Ce P w K mg base 1 "shapeless_line" ["rows"] (wG A):=T.Ew.ce QV (by walk_at"b1") (by walk_at"ln") (ab8 T) (acg T)
theorem U0:aW ["rows","latest","line","row"] ["rows"] (aO (top 27)):=by walk_at"sc"
theorem aea(T:Tx K mg A):Dv P w K mg base 0 ["rows","latest","line","row"] "late_line" (top 27) (HB K A):=bh U0 fun _ _ _ _ _ _ _ hr S hu bf bw=>(aD (bF (i:=1) S.nd rfl (by first|exact Or.inl rfl|exact Or.inr rfl) (bL (by rfl) T.o9)) (aD (fD PassesOwn.never rfl (nO (by rfl) T.jG (ao (pv 0) aA)) (lX rfl (fK (bN (i:=2) S.nd rfl (Or.inl rfl)) (fK (bN (i:=3) S.nd rfl (Or.inl rfl)) lK))) (aD (bD (bH Nj (aR (pv 3) rfl) (pv 1) (bG _)) (aF (aM (pv 2))) bC) (aF (bF (i:=1) S.nd rfl (by first|exact Or.inl rfl|exact Or.inr rfl) (aR (pv 3) rfl))))) (aF (aM fL))))
theorem ae0(T:Tx K mg A):Ce P w K mg base 1 "late_line" ["rows"] (yu A):=T.Im.ce U0 (by walk_at"b1") (by walk_at"ln") (aea T) (aeL T)
theorem RW:aW ["rows","counts","line","row"] ["rows"] (aO (top 28)):=by walk_at"sc"
theorem acL(T:Tx K mg A):Dv P w K mg base 0 ["rows","counts","line","row"] "surplus_line" (top 28) (Fx K A):=bh RW fun _ _ _ _ _ _ _ hr S hu bf bw=>(aD (bF (i:=1) S.nd rfl (by first|exact Or.inl rfl|exact Or.inr rfl) (bR (ao aK (ao aK (ao aK (ao aK aA)))))) (aD (fD PassesOwn.never rfl (nO (by rfl) T.jG (ao (pv 0) aA)) (lX rfl (fK (bN (i:=2) S.nd rfl (Or.inl rfl)) (fK (bN (i:=3) S.nd rfl (Or.inl rfl)) lK))) (aD (aik (pv 1) (aR (pv 3) rfl) ahq aK ajy set_list) (aF (bD (bH iw (cA cG (pv 1) (aR (pv 3) rfl) (fun _ _=>rfl)) (cA ajD (bL (by rfl) T.oR) (aR (pv 3) rfl) (fun _ _=>rfl)) (bG _)) (aF (aM (pv 2))) bC)))) (aF (aM fL))))
theorem ac9(T:Tx K mg A):Ce P w K mg base 1 "surplus_line" ["rows"] (wZ A):=T.Gj.ce RW (by walk_at"b1") (by walk_at"ln") (acL T) (ac0 T)
theorem Ra:aW ["rows","given","line","row"] ["rows"] (aO (top 29)):=by walk_at"sc"
theorem acA(T:Tx K mg A):Dv P w K mg base 0 ["rows","given","line","row"] "repeated_line" (top 29) (Fb K A):=bh Ra fun _ _ _ _ _ _ _ hr S hu bf bw=>(aD (bF (i:=1) S.nd rfl (by first|exact Or.inl rfl|exact Or.inr rfl) nA) (aD (fD PassesOwn.never rfl (nO (by rfl) T.jG (ao (pv 0) aA)) (lX rfl (fK (bN (i:=2) S.nd rfl (Or.inl rfl)) (fK (bN (i:=3) S.nd rfl (Or.inl rfl)) lK))) (aF (bD (bH iT (aR (pv 3) rfl) (bL (by rfl) T.qK) (bG _)) (aD (bD (nP (Mt hu (aR (pv 3) rfl) (pv 1)) (by with_unfolding_all rfl)) (aF (aM (pv 2))) bC) (aF (lQ hu (pv 1) (aR (pv 3) rfl) jm rfl))) bC))) (aF (aM fL))))
theorem acM(T:Tx K mg A):Ce P w K mg base 1 "repeated_line" ["rows"] (wK A):=T.Fq.ce Ra (by walk_at"b1") (by walk_at"ln") (acA T) (acG T)
theorem RX:aW ["rows","known","line","row"] ["rows"] (aO (top 30)):=by walk_at"sc"
theorem acN(T:Tx K mg A):Dv P w K mg base 0 ["rows","known","line","row"] "unknown_line" (top 30) (Fy K A):=bh RX fun _ _ _ _ _ _ _ hr S hu bf bw=>(aD (bF (i:=1) S.nd rfl (by first|exact Or.inl rfl|exact Or.inr rfl) nA) (aD (fD PassesOwn.never rfl (nO (by rfl) T.jG (ao (pv 0) aA)) (lX rfl (fK (bN (i:=2) S.nd rfl (Or.inl rfl)) (fK (bN (i:=3) S.nd rfl (Or.inl rfl)) lK))) (aD (bD (bH WK (aR (pv 3) rfl) (Z5 (ao (bL (by rfl) T.o9) (ao (bL (by rfl) T.q_) aA))) (by with_unfolding_all rfl)) (aF (lQ hu (pv 1) (aR (pv 3) rfl) jm rfl)) bC) (aF (bD (PW.pt (Z0 (bH dJ (aR (pv 3) rfl) (bL (by rfl) T.qK) (bG _)) (Y7 (nP (qJ hu (aR (pv 3) rfl) (pv 1)) (by with_unfolding_all rfl))))) (aF (aM (pv 2))) bC)))) (aF (aM fL))))
theorem ac_(T:Tx K mg A):Ce P w K mg base 1 "unknown_line" ["rows"] (w6 A):=T.Gk.ce RX (by walk_at"b1") (by walk_at"ln") (acN T) (ac1 T)
theorem ada(T:Tx K mg A):∀f sp,xg A f sp→Cf P w K mg base 1 f sp:=by
 rintro f sp (⟨rfl,rfl⟩|⟨rfl,rfl⟩|⟨rfl,rfl⟩|⟨rfl,rfl⟩|⟨rfl,rfl⟩)
 ·exact(acz T).cf T.Eu
 ·exact(ae0 T).cf T.Ih
 ·exact(ac9 T).cf T.Gg
 ·exact(acM T).cf T.Fp
 ·exact(ac_ T).cf T.Gh
theorem Td:aW ["rows","kind","finder","line"] ["rows"] (aO (top 32)):=by walk_at"sc"
theorem adb(T:Tx K mg A):Dv P w K mg base 1 ["rows","kind","finder","line"] "first_fault" (top 32) (Gu K A):=bh Td fun _ _ _ _ _ _ _ hr S hu bf bw=>(aD (fD PassesOwn.never rfl (ahr (by rfl) T.jG (ao (bL (by rfl) T.m_) aA)) (lX rfl (fK (bN (i:=1) S.nd rfl (Or.inl rfl)) (fK (bN (i:=2) S.nd rfl (Or.inl rfl)) lK))) (aD (bF (i:=3) S.nd rfl (by first|exact Or.inl rfl|exact Or.inr rfl) (ajQ (pv 2) (ada T) hr (ao (pv 0) aA))) (aF (bD (bH ail (pv 3) fL (bG _)) (aF (aM (bR (ao (pv 1) (ao (pv 3) aA))))) bC)))) (aF (aM (bR (ao aK (ao aK aA))))))
theorem adG(T:Tx K mg A):Ce P w K mg base 2 "first_fault" ["rows"] (Gs A):=T.GJ.ce Td (by walk_at"b1") (by walk_at"ln") (adb T) (adw T)
end
section
variable{P:Program}{w:World}{K:PySem.W.Frag}{mg:Str→Option Value}{base:Heap}{A:Ad}
theorem RZ:aW ["self","variable","opener","nodes"] ["self","variable","opener","nodes"] (aO (inClass (top 39) 0)):=by walk_at"sc"
theorem acO(T:Tx K mg A):Dv P w K mg base 0 ["self","variable","opener","nodes"] "Contact.__init__" (inClass (top 39) 0) (xr K A):=bh RZ fun _ _ _ _ _ _ _ hr S hu bf bw=>(aD (dB (pv 0) (pv 1) rfl) (aD (dB (pv 0) (pv 2) rfl) (aF (dB (pv 0) (pv 3) rfl))))
theorem ag8(T:Tx K mg A):Cm P w K mg base 1 "Contact" (V8 A):=rT T.J1 T.J0 RZ (by walk_at"b4") (fun _ _ _ _ h=>K6 h) (acO T) (ac5 T) K5
theorem Te:aW ["many"] ["many"] (aO (top 34)):=by walk_at"sc"
theorem ade(T:Tx K mg A):Dv P w K mg base 0 ["many"] "lowest_bits" (top 34) (xM K A):=bh Te fun _ _ _ _ _ _ _ hr S hu bf bw=>(aF (aM (b_ rB (b_ uL aK (pv 0)) aK)))
theorem T5(T:Tx K mg A):Ce P w K mg base 1 "lowest_bits" ["many"] xK:=T.GK.ce Te (by walk_at"b1") (by walk_at"ln") (ade T) (adx T)
theorem Tf:aW ["self","inputs","coils","contacts"] ["self","inputs","coils","contacts"] (aO (inClass (top 40) 0)):=by walk_at"sc"
theorem adf(T:Tx K mg A):Dv P w K mg base 1 ["self","inputs","coils","contacts"] "Scheme.__init__" (inClass (top 40) 0) (xO K A):=bh Tf fun _ _ _ _ _ _ _ hr S hu bf bw=>(aD (dB (pv 0) (pv 1) rfl) (aD (dB (pv 0) (pv 2) rfl) (aD (dB (pv 0) (pv 3) rfl) (aD (dB (pv 0) (b_ uL (aV (T5 T) hr (ao (bZ cR (by rfl) T.cF PySem.boot_len (ao (pv 2) aA)) aA)) (bL (by rfl) T.oN)) rfl) (aD (dB (pv 0) (b_ Ni (aV (T5 T) hr (ao (pv 1) aA)) (aR (pv 0) rfl)) rfl) (aF (dB (pv 0) nA rfl)))))))
theorem aib(T:Tx K mg A):Cm P w K mg base 2 "Scheme" (J4 A):=rT T.KC T.Kz Tf (by walk_at"b4") (by walk_at"ln") (adf T) (ady T) afS
theorem Vt:aW ["bits","parts","place","bit","part"] ["bits"] (aO (top 35)):=by walk_at"sc"
theorem ae1(T:Tx K mg A):Dv P w K mg base 0 ["bits","parts","place","bit","part"] "parts_of" (top 35) (IV K A):=bh Vt fun _ _ _ _ _ _ _ hr S hu bf bw=>(aD (bF (i:=1) S.nd rfl (by first|exact Or.inl rfl|exact Or.inr rfl) (bR (ao aK aA))) (aD (fD PassesOwn.never rfl (yS (by rfl) T.lU (ao (Z8 PySem.F.plainAttrs_int PySem.F.slot_int_bit_length PySem.F.type_int_bit_length agF (pv 0)) aA)) (bN (i:=2) S.nd rfl (Or.inl rfl)) (aD (bF (i:=3) S.nd rfl (by first|exact Or.inl rfl|exact Or.inr rfl) (b_ uL aK (pv 2))) (aF (bD (bH iT (b_ pA (pv 0) (pv 3)) aK (bG _)) (aF (bF (i:=1) S.nd rfl (by first|exact Or.inl rfl|exact Or.inr rfl) (b_ jM (pv 1) (gn rfl S.nd (cY (pv 1)) (dN (own:=[("part",4)]) (by kernel_rfl)) (fun _ _ _ _ _=>(bN (i:=4) S.nd rfl (by first|exact Or.inl rfl|exact Or.inr rfl) (by first|exact Or.inl rfl|exact Or.inr rfl))) (fun _ _ _ _ _=>gK) (fun _ _ _ _ _=>(b_ Ni (pv 4) (pv 3))))))) bC)))) (aF (aM (pv 1)))))
theorem yR(T:Tx K mg A):Ce P w K mg base 1 "parts_of" ["bits"] qD:=T.Jk.ce Vt (by walk_at"b1") (by walk_at"ln") (ae1 T) (afW T)
theorem U3:aW ["relay"] ["relay"] (aO (top 41)):=by walk_at"sc"
theorem aeb(T:Tx K mg A):Dv P w K mg base 0 ["relay"] "relay_bit" (top 41) (yx K A):=bh U3 fun _ _ _ _ _ _ _ hr S hu bf bw=>(aF (aM (b_ uL aK (b_ uK (bL (by rfl) T.oN) (pv 0)))))
theorem yJ(T:Tx K mg A):Ce P w K mg base 1 "relay_bit" ["relay"] qz:=T.Io.ce U3 (by walk_at"b1") (by walk_at"ln") (aeb T) (aeM T)
theorem R0:aW ["rows","rank","row"] ["rows","rank"] (aO (top 42)):=by walk_at"sc"
theorem acP(T:Tx K mg A):Dv P w K mg base 0 ["rows","rank","row"] "rows_of_rank" (top 42) (FJ K A):=bh R0 fun _ _ _ _ _ _ _ hr S hu bf bw=>(aF (aM (gn rfl S.nd (cY (pv 0)) (dN (own:=[("row",2)]) (by kernel_rfl)) (fun _ _ _ _ _=>(bN (i:=2) S.nd rfl (by first|exact Or.inl rfl|exact Or.inr rfl) (by first|exact Or.inl rfl|exact Or.inr rfl))) (fun _ _ _ _ _=>(lO (bH dJ (aR (pv 2) rfl) (pv 1) (bG _)))) (fun _ _ _ _ _=>(pv 2)))))
theorem tK(T:Tx K mg A):Ce P w K mg base 1 "rows_of_rank" ["rows","rank"] (oO A):=T.Gm.ce R0 (by walk_at"b2") (by walk_at"ln") (acP T) (ac3 T)
theorem Qa:aW ["rows","variables","number","row"] ["rows"] (aO (top 43)):=by walk_at"sc"
theorem abN(T:Tx K mg A):Dv P w K mg base 1 ["rows","variables","number","row"] "variables_by_name" (top 43) (DX K A):=bh Qa fun _ _ _ _ _ _ _ hr S hu bf bw=>(aD (bF (i:=1) S.nd rfl (by first|exact Or.inl rfl|exact Or.inr rfl) nA) (aD (fD PassesOwn.never rfl (nO (by rfl) T.jG (ao (aV (tK T) hr (ao (pv 0) (ao (bL (by rfl) T.o9) aA))) aA)) (lX rfl (fK (bN (i:=2) S.nd rfl (Or.inl rfl)) (fK (bN (i:=3) S.nd rfl (Or.inl rfl)) lK))) (aF (lQ hu (pv 1) (aR (pv 3) rfl) (pv 2) rfl))) (aD (fD PassesOwn.never rfl (nO (by rfl) T.jG (ao (aV (tK T) hr (ao (pv 0) (ao (bL (by rfl) T.q_) aA))) aA)) (lX rfl (fK (bN (i:=2) S.nd rfl (Or.inl rfl)) (fK (bN (i:=3) S.nd rfl (Or.inl rfl)) lK))) (aF (lQ hu (pv 1) (aR (pv 3) rfl) (b_ uK (bL (by rfl) T.oN) (pv 2)) rfl))) (aF (aM (pv 1))))))
theorem abU(T:Tx K mg A):Ce P w K mg base 2 "variables_by_name" ["rows"] (DR A):=T.D_.ce Qa (by walk_at"b1") (by walk_at"ln") (abN T) (abT T)
theorem U4:aW ["rows","variables","inputs","coils","row","contacts"] ["rows"] (aO (top 44)):=by walk_at"sc"
theorem aec(T:Tx K mg A):Dv P w K mg base 3 ["rows","variables","inputs","coils","row","contacts"] "scheme_of" (top 44) (HD K A):=bh U4 fun _ _ _ _ _ _ _ hr S hu bf bw=>(aD (bF (i:=1) S.nd rfl (by first|exact Or.inl rfl|exact Or.inr rfl) (aV (abU T) hr (ao (pv 0) aA))) (aD (bF (i:=2) S.nd rfl (by first|exact Or.inl rfl|exact Or.inr rfl) (bZ cR (by rfl) T.cF PySem.boot_len (ao (aV (tK T) hr (ao (pv 0) (ao (bL (by rfl) T.o9) aA))) aA))) (aD (nj (i:=3) rfl S.nd rfl rfl (nJ rfl rfl rfl rfl) (cY (aV (tK T) hr (ao (pv 0) (ao (bL (by rfl) T.q_) aA)))) (dN (own:=[("row",4)]) (by kernel_rfl)) (fun _ _ _ _ _=>(bN (i:=4) S.nd rfl (by first|exact Or.inl rfl|exact Or.inr rfl) (by first|exact Or.inl rfl|exact Or.inr rfl))) (fun _ _ _ _ _=>gK) (fun _ _ _ _ _=>(cA cG (aR (pv 4) rfl) aK (fun _ _=>rfl)))) (aD (nj (i:=5) rfl S.nd rfl rfl (nJ rfl rfl rfl rfl) (cY (aV (tK T) hr (ao (pv 0) (ao (bL (by rfl) T.qK) aA)))) (dN (own:=[("row",4)]) (by kernel_rfl)) (fun _ _ _ _ _=>(bN (i:=4) S.nd rfl (by first|exact Or.inl rfl|exact Or.inr rfl) (by first|exact Or.inl rfl|exact Or.inr rfl))) (fun _ _ _ _ _=>gK) (fun _ _ _ _ _=>(pG (ag8 T) hr (ao (o8 hu (pv 1) (aR (pv 4) rfl) (fun _ _=>rfl)) (ao (aR (pv 4) rfl) (ao (aR (pv 4) rfl) aA)))))) (aF (aM (pG (aib T) hr (ao (pv 2) (ao (pv 3) (ao (pv 5) aA))))))))))
theorem Vu(T:Tx K mg A):Ce P w K mg base 4 "scheme_of" ["rows"] (yw K A):=T.Ip.ce U4 (by walk_at"b1") (by walk_at"ln") (aec T) (aeP T)
theorem QW:aW ["scheme","contact"] ["scheme"] (aO (top 45)):=by walk_at"sc"
theorem ab9(T:Tx K mg A):Dv P w K mg base 0 ["scheme","contact"] "used_variables" (top 45) (En K A):=bh QW fun _ _ _ _ _ _ _ hr S hu bf bw=>(aF (aM (V3 rfl rfl T.uD rfl T.Bc (ao (gn rfl S.nd (cY (aR (pv 0) rfl)) (dN (own:=[("contact",1)]) (by kernel_rfl)) (fun _ _ _ _ _=>(bN (i:=1) S.nd rfl (by first|exact Or.inl rfl|exact Or.inr rfl) (by first|exact Or.inl rfl|exact Or.inr rfl))) (fun _ _ _ _ _=>gK) (fun _ _ _ _ _=>(aR (pv 1) rfl))) aA))))
theorem Fj(T:Tx K mg A):Ce P w K mg base 1 "used_variables" ["scheme"] (tH A):=T.Ey.ce QW (by walk_at"b1") (by walk_at"ln") (ab9 T) (aci T)
theorem R3:aW ["contact","state"] ["contact","state"] (aO (top 46)):=by walk_at"sc"
theorem acQ(T:Tx K mg A):Dv P w K mg base 0 ["contact","state"] "lets_through" (top 46) (xq K A):=bh R3 fun _ _ _ _ _ _ _ hr S hu bf bw=>(aF (aM (oZ iT (b_ pA (b_ ajz (pv 1) (aR (pv 0) rfl)) aK) (aR (pv 0) rfl) (bG _))))
theorem adg(T:Tx K mg A):Ce P w K mg base 1 "lets_through" ["contact","state"] (Fz A):=T.Gn.ce R3 (by walk_at"b2") (by walk_at"ln") (acQ T) (ac2 T)
theorem Py:aW ["scheme","state","neighbours","node","contact","lesser","greater"] ["scheme","state"] (aO (top 47)):=by walk_at"sc"
theorem abA(T:Tx K mg A):Dv P w K mg base 1 ["scheme","state","neighbours","node","contact","lesser","greater"] "neighbours_of_nodes" (top 47) (Dq K A):=bh Py fun _ _ _ _ _ _ _ hr S hu bf bw=>(aD (nj (i:=2) rfl S.nd rfl rfl (nJ rfl rfl rfl rfl) (yS (by rfl) T.lU (ao (b_ uK (bL (by rfl) T.wW) aK) aA)) (dN (own:=[("node",3)]) (by kernel_rfl)) (fun _ _ _ _ _=>(bN (i:=3) S.nd rfl (by first|exact Or.inl rfl|exact Or.inr rfl) (by first|exact Or.inl rfl|exact Or.inr rfl))) (fun _ _ _ _ _=>gK) (fun _ _ _ _ _=>(bR aA))) (aD (fD PassesOwn.never rfl (cY (aR (pv 0) rfl)) (bN (i:=4) S.nd rfl (Or.inl rfl)) (aF (bD (fC (aV (adg T) hr (ao (pv 4) (ao (pv 1) aA)))) (aD (bF (i:=5) S.nd rfl (by first|exact Or.inl rfl|exact Or.inr rfl) (cA cG (aR (pv 4) rfl) aK (fun _ _=>rfl))) (aD (bF (i:=6) S.nd rfl (by first|exact Or.inl rfl|exact Or.inr rfl) (cA cG (aR (pv 4) rfl) aK (fun _ _=>rfl))) (aD (jK (jQ PySem.F.plainAttrs_list PySem.F.slot_list_append PySem.F.type_list_append oV (cA cG (pv 2) (pv 5) (fun _ _=>rfl)) (ao (pv 6) aA))) (aF (jK (jQ PySem.F.plainAttrs_list PySem.F.slot_list_append PySem.F.type_list_append oV (cA cG (pv 2) (pv 6) (fun _ _=>rfl)) (ao (pv 5) aA))))))) bC))) (aF (aM (pv 2)))))
theorem abI(T:Tx K mg A):Ce P w K mg base 2 "neighbours_of_nodes" ["scheme","state"] (Dn A):=T.DG.ce Py (by walk_at"b2") (by walk_at"ln") (abA T) (abF T)
theorem T6:aW ["scheme","state","neighbours","live","waiting","node","neighbour"] ["scheme","state"] (aO (top 48)):=by walk_at"sc"
theorem adH(T:Tx K mg A):Dv P w K mg base 2 ["scheme","state","neighbours","live","waiting","node","neighbour"] "live_nodes" (top 48) (GZ K A):=bh T6 fun _ _ _ _ _ _ _ hr S hu bf bw=>(aD (bF (i:=2) S.nd rfl (by first|exact Or.inl rfl|exact Or.inr rfl) (aV (abI T) hr (ao (pv 0) (ao (pv 1) aA)))) (aD (bF (i:=3) S.nd rfl (by first|exact Or.inl rfl|exact Or.inr rfl) (Ze (X7 (bL (by rfl) T.Al) jm Zd) rfl rfl (by decide) (by decide))) (aD (bF (i:=4) S.nd rfl (by first|exact Or.inl rfl|exact Or.inr rfl) (bR (ao (bL (by rfl) T.Al) aA))) (aD (ux PassesOwn.never (bH iw (bZ cR (by rfl) T.cF PySem.boot_len (ao (pv 4) aA)) aK (bG _)) (aD (bF (i:=5) S.nd rfl (by first|exact Or.inl rfl|exact Or.inr rfl) (Z8 PySem.F.plainAttrs_list PySem.F.slot_list_pop PySem.F.type_list_pop ajG (pv 4))) (aF (fD PassesOwn.never rfl (cY (cA cG (pv 2) (pv 5) (fun _ _=>rfl))) (bN (i:=6) S.nd rfl (Or.inl rfl)) (aF (bD (nP (qJ hu (pv 6) (pv 3)) (by with_unfolding_all rfl)) (aD (lQ hu (pv 3) (pv 6) jm rfl) (aF (jK (jQ PySem.F.plainAttrs_list PySem.F.slot_list_append PySem.F.type_list_append oV (pv 4) (ao (pv 6) aA))))) bC)))))) (aF (aM (pv 3)))))))
theorem aed(T:Tx K mg A):Ce P w K mg base 3 "live_nodes" ["scheme","state"] (GX A):=T.Hu.ce T6 (by walk_at"b2") (by walk_at"ln") (adH T) (adY T)
theorem QX:aW ["scheme","state","live","relay","coil"] ["scheme","state"] (aO (top 49)):=by walk_at"sc"
theorem ab_(T:Tx K mg A):Dv P w K mg base 3 ["scheme","state","live","relay","coil"] "drawing_relays" (top 49) (wH K A):=bh QX fun _ _ _ _ _ _ _ hr S hu bf bw=>(aD (bD (nP (qJ hu (pv 1) (aR (pv 0) rfl)) (by with_unfolding_all rfl)) (aD (bF (i:=2) S.nd rfl (by first|exact Or.inl rfl|exact Or.inr rfl) (aV (aed T) hr (ao (pv 0) (ao (pv 1) aA)))) (aF (lQ hu (aR (pv 0) rfl) (pv 1) (bZ (Z9 rfl) (by rfl) T.Bb W6 (ao (gn rfl S.nd (nO (by rfl) T.jG (ao (aR (pv 0) rfl) aA)) (dN (own:=[("coil",4),("relay",3)]) (by kernel_rfl)) (fun _ _ _ _ _=>(lX rfl (fK (bN (i:=3) S.nd rfl (by first|exact Or.inl rfl|exact Or.inr rfl) (by first|exact Or.inl rfl|exact Or.inr rfl)) (fK (bN (i:=4) S.nd rfl (by first|exact Or.inl rfl|exact Or.inr rfl) (by first|exact Or.inl rfl|exact Or.inr rfl)) lK)))) (fun _ _ _ _ _=>(lO (nP (Mt hu (pv 4) (pv 2)) (by with_unfolding_all rfl)))) (fun _ _ _ _ _=>(aV (yJ T) hr (ao (pv 3) aA)))) aA)) rfl))) bC) (aF (aM (o8 hu (aR (pv 0) rfl) (pv 1) (fun _ _=>rfl)))))
theorem wQ(T:Tx K mg A):Ce P w K mg base 4 "drawing_relays" ["scheme","state"] (qp A):=T.Ez.ce QX (by walk_at"b2") (by walk_at"ln") (ab_ T) (ach T)
end
section
variable{P:Program}{w:World}{K:PySem.W.Frag}{mg:Str→Option Value}{base:Heap}{A:Ad}
theorem Qc:aW ["scheme","state","relay","bit"] ["scheme","state","relay"] (aO (top 69)):=by walk_at"sc"
theorem abO(T:Tx K mg A):Dv P w K mg base 4 ["scheme","state","relay","bit"] "state_behind_rung" (top 69) (wu K A):=bh Qc fun _ _ _ _ _ _ _ hr S hu bf bw=>(aD (bF (i:=3) S.nd rfl (by first|exact Or.inl rfl|exact Or.inr rfl) (aV (yJ T) hr (ao (pv 2) aA))) (aF (aM (b_ Ni (b_ pA (pv 1) (rG ajA (pv 3))) (b_ pA (aV (wQ T) hr (ao (pv 0) (ao (pv 1) aA))) (pv 3))))))
theorem abV(T:Tx K mg A):Ce P w K mg base 5 "state_behind_rung" ["scheme","state","relay"] (DW A):=T.Ea.ce Qc (by walk_at"b3") (by walk_at"ln") (abO T) (abR T)
theorem Pz:aW ["scheme","state","order","states","now","relay"] ["scheme","state","order"] (aO (top 70)):=by walk_at"sc"
theorem abB(T:Tx K mg A):Dv P w K mg base 5 ["scheme","state","order","states","now","relay"] "states_behind_rungs" (top 70) (Dr K A):=bh Pz fun _ _ _ _ _ _ _ hr S hu bf bw=>(aD (bF (i:=3) S.nd rfl (by first|exact Or.inl rfl|exact Or.inr rfl) (bR aA)) (aD (bF (i:=4) S.nd rfl (by first|exact Or.inl rfl|exact Or.inr rfl) (pv 1)) (aD (fD PassesOwn.never rfl (cY (pv 2)) (bN (i:=5) S.nd rfl (Or.inl rfl)) (aD (bF (i:=4) S.nd rfl (by first|exact Or.inl rfl|exact Or.inr rfl) (aV (abV T) hr (ao (pv 0) (ao (pv 4) (ao (pv 5) aA))))) (aF (jK (jQ PySem.F.plainAttrs_list PySem.F.slot_list_append PySem.F.type_list_append oV (pv 3) (ao (pv 4) aA)))))) (aF (aM (pv 3))))))
theorem P0(T:Tx K mg A):Ce P w K mg base 6 "states_behind_rungs" ["scheme","state","order"] (v8 A):=T.DN.ce Pz (by walk_at"b3") (by walk_at"ln") (abB T) (abE T)
theorem Qg:aW ["scheme","state","order","states"] ["scheme","state","order"] (aO (top 71)):=by walk_at"sc"
theorem abP(T:Tx K mg A):Dv P w K mg base 6 ["scheme","state","order","states"] "state_behind_pass" (top 71) (wA K A):=bh Qg fun _ _ _ _ _ _ _ hr S hu bf bw=>(aD (bF (i:=3) S.nd rfl (by first|exact Or.inl rfl|exact Or.inr rfl) (aV (P0 T) hr (ao (pv 0) (ao (pv 1) (ao (pv 2) aA))))) (aF (aM (Kl (bH iw (bZ cR (by rfl) T.cF PySem.boot_len (ao (pv 3) aA)) aK (bG _)) (cA cG (pv 3) (rG uM aK) (fun _ _=>rfl)) (pv 1)))))
theorem Qo(T:Tx K mg A):Ce P w K mg base 7 "state_behind_pass" ["scheme","state","order"] (wj A):=T.Eb.ce Qg (by walk_at"b3") (by walk_at"ln") (abP T) (abS T)
theorem U5:aW ["self","states","back"] ["self","states","back"] (aO (inClass (top 68) 0)):=by walk_at"sc"
theorem aee(T:Tx K mg A):Dv P w K mg base 0 ["self","states","back"] "Scan.__init__" (inClass (top 68) 0) (yE K A):=bh U5 fun _ _ _ _ _ _ _ hr S hu bf bw=>(aD (dB (pv 0) (pv 1) rfl) (aF (dB (pv 0) (pv 2) rfl)))
theorem akm(T:Tx K mg A):Cm P w K mg base 1 "Scan" (ZL A):=rT T.M8 T.M7 U5 (by walk_at"b3") (fun _ _ _ _ h=>K6 h) (aee T) (aeU T) K5
theorem Qp:aW ["self"] ["self"] (aO (inClass (top 68) 1)):=by walk_at"sc"
theorem abW(T:Tx K mg A):Dv P w K mg base 0 ["self"] "Scan.comes_round" (inClass (top 68) 1) (wF K A):=bh Qp fun _ _ _ _ _ _ _ hr S hu bf bw=>(aF (aM (oZ iT (aR (pv 0) rfl) (b_ rB (bZ cR (by rfl) T.cF PySem.boot_len (ao (aR (pv 0) rfl) aA)) aK) (bG _))))
theorem Ei(T:Tx K mg A):Ct P w K mg base 1 A.scan "comes_round" (tD A):=Bk T.iR T.Ef Qp (by walk_at"b1") (by walk_at"ln") (abW T) (ab1 T)
theorem Wr:aW ["scheme","state","order","places","now"] ["scheme","state","order"] (aO (top 72)):=by walk_at"sc"
theorem af6(T:Tx K mg A):Dv P w K mg base 7 ["scheme","state","order","places","now"] "scan_of" (top 72) (Jw K A):=bh Wr fun _ _ _ _ _ _ _ hr S hu bf bw=>(aD (bF (i:=3) S.nd rfl (by first|exact Or.inl rfl|exact Or.inr rfl) nA) (aD (bF (i:=4) S.nd rfl (by first|exact Or.inl rfl|exact Or.inr rfl) (pv 1)) (aD (ux PassesOwn.never (nP (qJ hu (pv 4) (pv 3)) (by with_unfolding_all rfl)) (aD (lQ hu (pv 3) (pv 4) (bZ W2 (by rfl) T.cF PySem.boot_len (ao (pv 3) aA)) rfl) (aF (bF (i:=4) S.nd rfl (by first|exact Or.inl rfl|exact Or.inr rfl) (aV (Qo T) hr (ao (pv 0) (ao (pv 4) (ao (pv 2) aA)))))))) (aF (aM (pG (akm T) hr (ao (uc (aeF rfl) (by rfl) T.rE VH (ao (pv 3) aA)) (ao (o8 hu (pv 3) (pv 4) (fun _ _=>rfl)) aA))))))))
theorem Kg(T:Tx K mg A):Ce P w K mg base 8 "scan_of" ["scheme","state","order"] (t_ A):=T.JW.ce Wr (by walk_at"b3") (by walk_at"ln") (af6 T) (ag5 T)
theorem T7:aW ["many","orders","relay","longer","order","place"] ["many"] (aO (top 73)):=by walk_at"sc"
theorem adI(T:Tx K mg A):Dv P w K mg base 0 ["many","orders","relay","longer","order","place"] "all_orders" (top 73) (G_ K A):=bh T7 fun _ _ _ _ _ _ _ hr S hu bf bw=>(aD (bF (i:=1) S.nd rfl (by first|exact Or.inl rfl|exact Or.inr rfl) (bR (ao (bR aA) aA))) (aD (fD PassesOwn.never rfl (yS (by rfl) T.lU (ao (pv 0) aA)) (bN (i:=2) S.nd rfl (Or.inr rfl)) (aD (bF (i:=3) S.nd rfl (by first|exact Or.inl rfl|exact Or.inr rfl) (bR aA)) (aD (fD PassesOwn.never rfl (cY (pv 1)) (bN (i:=4) S.nd rfl (Or.inr rfl)) (aF (jK (jQ PySem.F.plainAttrs_list PySem.F.slot_list_extend PySem.F.type_list_extend WL (pv 3) (ao (gn rfl S.nd (yS (by rfl) T.lU (ao (b_ uK (pv 2) aK) aA)) (dN (own:=[("place",5)]) (by kernel_rfl)) (fun _ _ _ _ _=>(bN (i:=5) S.nd rfl (by first|exact Or.inl rfl|exact Or.inr rfl) (by first|exact Or.inl rfl|exact Or.inr rfl))) (fun _ _ _ _ _=>gK) (fun _ _ _ _ _=>(b_ jM (b_ jM (oX o7 (pv 4) nH (jL (pv 5))) (bR (ao (pv 2) aA))) (oX o7 (pv 4) (jL (pv 5)) nH)))) aA))))) (aF (bF (i:=1) S.nd rfl (by first|exact Or.inl rfl|exact Or.inr rfl) (pv 3)))))) (aF (aM (pv 1)))))
theorem aef(T:Tx K mg A):Ce P w K mg base 1 "all_orders" ["many"] G7:=T.Hx.ce T7 (by walk_at"b1") (by walk_at"ln") (adI T) (ad1 T)
theorem PB:aW ["scheme","state","order"] ["scheme","state"] (aO (top 74)):=by walk_at"sc"
theorem abC(T:Tx K mg A):Dv P w K mg base 8 ["scheme","state","order"] "scans_of_all_orders" (top 74) (Dy K A):=bh PB fun _ _ _ _ _ _ _ hr S hu bf bw=>(aF (aM (gn rfl S.nd (cY (aV (aef T) hr (ao (bZ cR (by rfl) T.cF PySem.boot_len (ao (aR (pv 0) rfl) aA)) aA))) (dN (own:=[("order",2)]) (by kernel_rfl)) (fun _ _ _ _ _=>(bN (i:=2) S.nd rfl (by first|exact Or.inl rfl|exact Or.inr rfl) (by first|exact Or.inl rfl|exact Or.inr rfl))) (fun _ _ _ _ _=>gK) (fun _ _ _ _ _=>(aV (Kg T) hr (ao (pv 0) (ao (pv 1) (ao (pv 2) aA))))))))
theorem abJ(T:Tx K mg A):Ce P w K mg base 9 "scans_of_all_orders" ["scheme","state"] (Dt A):=T.DP.ce PB (by walk_at"b2") (by walk_at"ln") (abC T) (abH T)
end
section
variable{P:Program}{w:World}{K:PySem.W.Frag}{mg:Str→Option Value}{base:Heap}{A:Ad}
theorem QZ:aW ["scheme","variable"] ["scheme"] (aO (top 51)):=by walk_at"sc"
theorem acd(T:Tx K mg A):Dv P w K mg base 1 ["scheme","variable"] "states_of_used" (top 51) (Eo K A):=bh QZ fun _ _ _ _ _ _ _ hr S hu bf bw=>(aF (aM (aV (yR T) hr (ao (bZ (Z9 rfl) (by rfl) T.Bb W6 (ao (gn rfl S.nd (cY (aV (Fj T) hr (ao (pv 0) aA))) (dN (own:=[("variable",1)]) (by kernel_rfl)) (fun _ _ _ _ _=>(bN (i:=1) S.nd rfl (by first|exact Or.inl rfl|exact Or.inr rfl) (by first|exact Or.inl rfl|exact Or.inr rfl))) (fun _ _ _ _ _=>gK) (fun _ _ _ _ _=>(b_ uL aK (pv 1)))) aA)) aA))))
theorem acB(T:Tx K mg A):Ce P w K mg base 2 "states_of_used" ["scheme"] (El A):=T.EY.ce QZ (by walk_at"b1") (by walk_at"ln") (acd T) (acj T)
theorem Tg:aW ["scheme","variable"] ["scheme"] (aO (top 52)):=by walk_at"sc"
theorem adh(T:Tx K mg A):Dv P w K mg base 1 ["scheme","variable"] "used_relays" (top 52) (Gw K A):=bh Tg fun _ _ _ _ _ _ _ hr S hu bf bw=>(aF (aM (gn rfl S.nd (cY (aV (Fj T) hr (ao (pv 0) aA))) (dN (own:=[("variable",1)]) (by kernel_rfl)) (fun _ _ _ _ _=>(bN (i:=1) S.nd rfl (by first|exact Or.inl rfl|exact Or.inr rfl) (by first|exact Or.inl rfl|exact Or.inr rfl))) (fun _ _ _ _ _=>(lO (bH Nk (pv 1) (bL (by rfl) T.oN) (bG _)))) (fun _ _ _ _ _=>(b_ rB (pv 1) (bL (by rfl) T.oN))))))
theorem adJ(T:Tx K mg A):Ce P w K mg base 2 "used_relays" ["scheme"] (Gv A):=T.GP.ce Tg (by walk_at"b1") (by walk_at"ln") (adh T) (adB T)
theorem Vv:aW ["scheme","relay","other","state","changed"] ["scheme","relay","other"] (aO (top 53)):=by walk_at"sc"
theorem ae2(T:Tx K mg A):Dv P w K mg base 4 ["scheme","relay","other","state","changed"] "hangs_on" (top 53) (IW K A):=bh Vv fun _ _ _ _ _ _ _ hr S hu bf bw=>(aD (fD PassesOwn.never rfl (cY (aV (acB T) hr (ao (pv 0) aA))) (bN (i:=3) S.nd rfl (Or.inl rfl)) (aD (bF (i:=4) S.nd rfl (by first|exact Or.inl rfl|exact Or.inr rfl) (b_ Af (aV (wQ T) hr (ao (pv 0) (ao (pv 3) aA))) (aV (wQ T) hr (ao (pv 0) (ao (b_ Af (pv 3) (aV (yJ T) hr (ao (pv 2) aA))) aA))))) (aF (bD (bH iT (b_ pA (pv 4) (aV (yJ T) hr (ao (pv 1) aA))) aK (bG _)) (aF (aM jm)) bC)))) (aF (aM jm)))
theorem af7(T:Tx K mg A):Ce P w K mg base 5 "hangs_on" ["scheme","relay","other"] (Iz A):=T.Jl.ce Vv (by walk_at"b3") (by walk_at"ln") (ae2 T) (afX T)
theorem T8:aW ["scheme","relay","other"] ["scheme","relay"] (aO (top 54)):=by walk_at"sc"
theorem adK(T:Tx K mg A):Dv P w K mg base 5 ["scheme","relay","other"] "hung_on_by" (top 54) (G8 K A):=bh T8 fun _ _ _ _ _ _ _ hr S hu bf bw=>(aF (aM (gn rfl S.nd (cY (aV (adJ T) hr (ao (pv 0) aA))) (dN (own:=[("other",2)]) (by kernel_rfl)) (fun _ _ _ _ _=>(bN (i:=2) S.nd rfl (by first|exact Or.inl rfl|exact Or.inr rfl) (by first|exact Or.inl rfl|exact Or.inr rfl))) (fun _ _ _ _ _=>(lO (fC (aV (af7 T) hr (ao (pv 0) (ao (pv 1) (ao (pv 2) aA))))))) (fun _ _ _ _ _=>(pv 2)))))
theorem U6(T:Tx K mg A):Ce P w K mg base 6 "hung_on_by" ["scheme","relay"] (xX A):=T.Hv.ce T8 (by walk_at"b2") (by walk_at"ln") (adK T) (adZ T)
theorem Vw:aW ["relays","order","relay"] ["relays","order"] (aO (top 55)):=by walk_at"sc"
theorem ae3(T:Tx K mg A):Dv P w K mg base 0 ["relays","order","relay"] "are_told" (top 55) (I_ K A):=bh Vw fun _ _ _ _ _ _ _ hr S hu bf bw=>(aF (aM (bZ (Ah rfl) (by rfl) T.rP yV (ao (gn rfl S.nd (cY (pv 0)) (dN (own:=[("relay",2)]) (by kernel_rfl)) (fun _ _ _ _ _=>(bN (i:=2) S.nd rfl (by first|exact Or.inl rfl|exact Or.inr rfl) (by first|exact Or.inl rfl|exact Or.inr rfl))) (fun _ _ _ _ _=>gK) (fun _ _ _ _ _=>(oZ WK (pv 2) (pv 1) (by with_unfolding_all rfl)))) aA))))
theorem af8(T:Tx K mg A):Ce P w K mg base 1 "are_told" ["relays","order"] IK:=T.Jm.ce Vw (by walk_at"b2") (by walk_at"ln") (ae3 T) (afY T)
theorem T9:aW ["scheme","left","needs","relay","order","free"] ["scheme"] (aO (top 56)):=by walk_at"sc"
theorem adL(T:Tx K mg A):Dv P w K mg base 6 ["scheme","left","needs","relay","order","free"] "order_told" (top 56) (G9 K A):=bh T9 fun _ _ _ _ _ _ _ hr S hu bf bw=>(aD (bF (i:=1) S.nd rfl (by first|exact Or.inl rfl|exact Or.inr rfl) (Hi rfl rfl T.rE rfl T.lU (ao (bZ cR (by rfl) T.cF PySem.boot_len (ao (aR (pv 0) rfl) aA)) aA))) (aD (bF (i:=2) S.nd rfl (by first|exact Or.inl rfl|exact Or.inr rfl) (gn rfl S.nd (cY (pv 1)) (dN (own:=[("relay",3)]) (by kernel_rfl)) (fun _ _ _ _ _=>(bN (i:=3) S.nd rfl (by first|exact Or.inl rfl|exact Or.inr rfl) (by first|exact Or.inl rfl|exact Or.inr rfl))) (fun _ _ _ _ _=>gK) (fun _ _ _ _ _=>(aV (U6 T) hr (ao (pv 0) (ao (pv 3) aA)))))) (aD (bF (i:=4) S.nd rfl (by first|exact Or.inl rfl|exact Or.inr rfl) (bR aA)) (aD (ux PassesOwn.never (bH iw (bZ cR (by rfl) T.cF PySem.boot_len (ao (pv 1) aA)) aK (bG _)) (aD (nj (i:=5) rfl S.nd rfl rfl (nJ rfl rfl rfl rfl) (cY (pv 1)) (dN (own:=[("relay",3)]) (by kernel_rfl)) (fun _ _ _ _ _=>(bN (i:=3) S.nd rfl (by first|exact Or.inl rfl|exact Or.inr rfl) (by first|exact Or.inl rfl|exact Or.inr rfl))) (fun _ _ _ _ _=>(lO (fC (aV (af8 T) hr (ao (cA cG (pv 2) (pv 3) (fun _ _=>rfl)) (ao (pv 4) aA)))))) (fun _ _ _ _ _=>(pv 3))) (aD (bD (bH dJ (bZ cR (by rfl) T.cF PySem.boot_len (ao (pv 5) aA)) aK (bG _)) (aF (aM fL)) bC) (aD (jK (jQ PySem.F.plainAttrs_list PySem.F.slot_list_append PySem.F.type_list_append oV (pv 4) (ao (cA cG (pv 5) aK (fun _ _=>rfl)) aA))) (aF (jK (jQ PySem.F.plainAttrs_list PySem.F.slot_list_remove PySem.F.type_list_remove agG (pv 1) (ao (cA cG (pv 5) aK (fun _ _=>rfl)) aA)))))))) (aF (aM (pv 4)))))))
theorem aeg(T:Tx K mg A):Ce P w K mg base 7 "order_told" ["scheme"] (G6 A):=T.Hw.ce T9 (by walk_at"b1") (by walk_at"ln") (adL T) (ad0 T)
theorem Rb:aW ["scheme"] ["scheme"] (aO (top 97)):=by walk_at"sc"
theorem acC(T:Tx K mg A):Dv P w K mg base 1 ["scheme"] "too_many_used" (top 97) (Fi K A):=bh Rb fun _ _ _ _ _ _ _ hr S hu bf bw=>(aF (aM (oZ iw (bZ cR (by rfl) T.cF PySem.boot_len (ao (aV (Fj T) hr (ao (pv 0) aA)) aA)) (bL (by rfl) T.DY) (bG _))))
theorem R4(T:Tx K mg A):Ce P w K mg base 2 "too_many_used" ["scheme"] (wN A):=T.Fv.ce Rb (by walk_at"b1") (by walk_at"ln") (acC T) (acI T)
theorem PJ:aW ["scheme","state","unsettled","turned"] ["scheme","state"] (aO (top 61)):=by walk_at"sc"
theorem abD(T:Tx K mg A):Dv P w K mg base 4 ["scheme","state","unsettled","turned"] "states_behind_moves" (top 61) (Du K A):=bh PJ fun _ _ _ _ _ _ _ hr S hu bf bw=>(aD (bF (i:=2) S.nd rfl (by first|exact Or.inl rfl|exact Or.inr rfl) (b_ pA (b_ Af (aV (wQ T) hr (ao (pv 0) (ao (pv 1) aA))) (pv 1)) (aR (pv 0) rfl))) (aF (aM (gn rfl S.nd (cY (aV (yR T) hr (ao (pv 2) aA))) (dN (own:=[("turned",3)]) (by kernel_rfl)) (fun _ _ _ _ _=>(bN (i:=3) S.nd rfl (by first|exact Or.inl rfl|exact Or.inr rfl) (by first|exact Or.inl rfl|exact Or.inr rfl))) (fun _ _ _ _ _=>(lO (bH iT (pv 3) aK (bG _)))) (fun _ _ _ _ _=>(b_ Af (pv 1) (pv 3)))))))
theorem abK(T:Tx K mg A):Ce P w K mg base 5 "states_behind_moves" ["scheme","state"] (Ds A):=T.DK.ce PJ (by walk_at"b2") (by walk_at"ln") (abD T) (abG T)
theorem U7:aW ["states","rests","state"] ["states","rests"] (aO (top 62)):=by walk_at"sc"
theorem aeh(T:Tx K mg A):Dv P w K mg base 0 ["states","rests","state"] "are_known" (top 62) (HS K A):=bh U7 fun _ _ _ _ _ _ _ hr S hu bf bw=>(aF (aM (bZ (Ah rfl) (by rfl) T.rP yV (ao (gn rfl S.nd (cY (pv 0)) (dN (own:=[("state",2)]) (by kernel_rfl)) (fun _ _ _ _ _=>(bN (i:=2) S.nd rfl (by first|exact Or.inl rfl|exact Or.inr rfl) (by first|exact Or.inl rfl|exact Or.inr rfl))) (fun _ _ _ _ _=>gK) (fun _ _ _ _ _=>(ajw (Mt hu (pv 2) (pv 1)) (by with_unfolding_all rfl)))) aA))))
theorem ae4(T:Tx K mg A):Ce P w K mg base 1 "are_known" ["states","rests"] HN:=T.Ir.ce U7 (by walk_at"b2") (by walk_at"ln") (aeh T) (aeW T)
theorem Rc:aW ["state","behind","rests","found","other"] ["state","behind","rests"] (aO (top 63)):=by walk_at"sc"
theorem acD(T:Tx K mg A):Dv P w K mg base 0 ["state","behind","rests","found","other"] "rests_through" (top 63) (wO K A):=bh Rc fun _ _ _ _ _ _ _ hr S hu bf bw=>(aD (bD (bH dJ (bZ cR (by rfl) T.cF PySem.boot_len (ao (pv 1) aA)) aK (bG _)) (aF (aM (Ze (X7 (pv 0) jm Zd) rfl rfl (by decide) (by decide)))) bC) (aD (bF (i:=3) S.nd rfl (by first|exact Or.inl rfl|exact Or.inr rfl) nA) (aD (fD PassesOwn.never rfl (cY (pv 1)) (bN (i:=4) S.nd rfl (Or.inl rfl)) (aF (jK (jQ PySem.F.plainAttrs_dict PySem.F.slot_dict_update PySem.F.type_dict_update agH (pv 3) (ao (o8 hu (pv 2) (pv 4) (fun _ _=>rfl)) aA))))) (aF (aM (pv 3))))))
theorem acR(T:Tx K mg A):Ce P w K mg base 1 "rests_through" ["state","behind","rests"] (Fg A):=T.Ft.ce Rc (by walk_at"b3") (by walk_at"ln") (acD T) (acJ T)
theorem Q0:aW ["scheme","waiting","behind","state","rests","ready"] ["scheme"] (aO (top 64)):=by walk_at"sc"
theorem ace(T:Tx K mg A):Dv P w K mg base 5 ["scheme","waiting","behind","state","rests","ready"] "rests_by_state" (top 64) (Ep K A):=bh Q0 fun _ _ _ _ _ _ _ hr S hu bf bw=>(aD (bF (i:=1) S.nd rfl (by first|exact Or.inl rfl|exact Or.inr rfl) (aV (yR T) hr (ao (aR (pv 0) rfl) aA))) (aD (bF (i:=2) S.nd rfl (by first|exact Or.inl rfl|exact Or.inr rfl) nA) (aD (fD PassesOwn.never rfl (cY (pv 1)) (bN (i:=3) S.nd rfl (Or.inl rfl)) (aF (lQ hu (pv 2) (pv 3) (aV (abK T) hr (ao (pv 0) (ao (pv 3) aA))) rfl))) (aD (bF (i:=4) S.nd rfl (by first|exact Or.inl rfl|exact Or.inr rfl) nA) (aF (ux PassesOwn.never (fC jm) (aD (nj (i:=5) rfl S.nd rfl rfl (nJ rfl rfl rfl rfl) (cY (pv 1)) (dN (own:=[("state",3)]) (by kernel_rfl)) (fun _ _ _ _ _=>(bN (i:=3) S.nd rfl (by first|exact Or.inl rfl|exact Or.inr rfl) (by first|exact Or.inl rfl|exact Or.inr rfl))) (fun _ _ _ _ _=>(lO (fC (aV (ae4 T) hr (ao (o8 hu (pv 2) (pv 3) (fun _ _=>rfl)) (ao (pv 4) aA)))))) (fun _ _ _ _ _=>(pv 3))) (aD (bD (bH dJ (bZ cR (by rfl) T.cF PySem.boot_len (ao (pv 5) aA)) aK (bG _)) (aF (aM (pv 4))) bC) (aD (fD PassesOwn.never rfl (cY (pv 5)) (bN (i:=3) S.nd rfl (Or.inl rfl)) (aF (lQ hu (pv 4) (pv 3) (aV (acR T) hr (ao (pv 3) (ao (o8 hu (pv 2) (pv 3) (fun _ _=>rfl)) (ao (pv 4) aA)))) rfl))) (aF (nj (i:=1) rfl S.nd rfl rfl (nJ rfl rfl rfl rfl) (cY (pv 1)) (dN (own:=[("state",3)]) (by kernel_rfl)) (fun _ _ _ _ _=>(bN (i:=3) S.nd rfl (by first|exact Or.inl rfl|exact Or.inr rfl) (by first|exact Or.inl rfl|exact Or.inr rfl))) (fun _ _ _ _ _=>(lO (nP (qJ hu (pv 3) (pv 4)) (by with_unfolding_all rfl)))) (fun _ _ _ _ _=>(pv 3)))))))))))))
theorem acE(T:Tx K mg A):Ce P w K mg base 6 "rests_by_state" ["scheme"] (Em A):=T.E_.ce Q0 (by walk_at"b1") (by walk_at"ln") (ace T) (acn T)
theorem R5:aW ["state","rests"] ["state","rests"] (aO (top 65)):=by walk_at"sc"
theorem acS(T:Tx K mg A):Dv P w K mg base 0 ["state","rests"] "why_not_sure" (top 65) (xG K A):=bh R5 fun _ _ _ _ _ _ _ hr S hu bf bw=>(aD (bD (nP (qJ hu (pv 0) (pv 1)) (by with_unfolding_all rfl)) (aF (aM (bL (by rfl) T.MJ))) bC) (aF (aM (Kl (bH iw (bZ W2 (by rfl) T.cF PySem.boot_len (ao (o8 hu (pv 1) (pv 0) (fun _ _=>rfl)) aA)) aK (bG _)) (bL (by rfl) T.Fo) (bL (by rfl) T.Am)))))
theorem adi(T:Tx K mg A):Ce P w K mg base 1 "why_not_sure" ["state","rests"] FN:=T.Gp.ce R5 (by walk_at"b2") (by walk_at"ln") (acS T) (ac7 T)
theorem R6:aW ["scheme","rests","state","why"] ["scheme"] (aO (top 66)):=by walk_at"sc"
theorem acT(T:Tx K mg A):Dv P w K mg base 6 ["scheme","rests","state","why"] "first_unsure" (top 66) (FT K A):=bh R6 fun _ _ _ _ _ _ _ hr S hu bf bw=>(aD (bF (i:=1) S.nd rfl (by first|exact Or.inl rfl|exact Or.inr rfl) (aV (acE T) hr (ao (pv 0) aA))) (aD (fD PassesOwn.never rfl (cY (aV (yR T) hr (ao (aR (pv 0) rfl) aA))) (bN (i:=2) S.nd rfl (Or.inl rfl)) (aD (bF (i:=3) S.nd rfl (by first|exact Or.inl rfl|exact Or.inr rfl) (aV (adi T) hr (ao (pv 2) (ao (pv 1) aA)))) (aF (bD (bH iT (pv 3) (bL (by rfl) T.Am) (bG _)) (aF (aM (bR (ao (pv 2) (ao (pv 3) aA))))) bC)))) (aF (aM fL))))
theorem adk(T:Tx K mg A):Ce P w K mg base 7 "first_unsure" ["scheme"] (FP A):=T.Gq.ce R6 (by walk_at"b1") (by walk_at"ln") (acT T) (ac8 T)
end
section
variable{P:Program}{w:World}{K:PySem.W.Frag}{mg:Str→Option Value}{base:Heap}{A:Ad}
theorem R7:aW ["self"] ["self"] (aO (inClass (top 87) 0)):=by walk_at"sc"
theorem acU(T:Tx K mg A):Dv P w K mg base 4 ["self"] "Program.__init__" (inClass (top 87) 0) (xu K A):=bh R7 fun _ _ _ _ _ _ _ hr S hu bf bw=>(aD (dB (pv 0) (aV (Vu T) hr (ao (bR aA) aA)) rfl) (aD (dB (pv 0) aK rfl) (aF (dB (pv 0) (bR aA) rfl))))
theorem ag9(T:Tx K mg A):Cm P w K mg base 5 "Program" (Ju A):=rT T.J3 T.J2 R7 (by walk_at"b1") (by walk_at"ln") (acU T) (ac6 T) aeT
theorem Ti:aW ["self","calls"] ["self","calls"] (aO (inClass (top 88) 0)):=by walk_at"sc"
theorem adl(T:Tx K mg A):Dv P w K mg base 0 ["self","calls"] "Reader.__init__" (inClass (top 88) 0) (xP K A):=bh Ti fun _ _ _ _ _ _ _ hr S hu bf bw=>(aD (dB (pv 0) (pv 1) rfl) (aF (dB (pv 0) aK rfl)))
theorem aic(T:Tx K mg A):Cm P w K mg base 1 "Reader" (J8 A):=rT T.KH T.KD Ti (by walk_at"b2") (by walk_at"ln") (adl T) (adz T) afR
theorem Rf:aW ["self"] ["self"] (aO (inClass (top 88) 1)):=by walk_at"sc"
theorem acF(T:Tx K mg A):Dv P w K mg base 0 ["self"] "Reader.at_end" (inClass (top 88) 1) (wM K A):=bh Rf fun _ _ _ _ _ _ _ hr S hu bf bw=>(aF (aM (oZ Nk (aR (pv 0) rfl) (bZ cR (by rfl) T.cF PySem.boot_len (ao (aR (pv 0) rfl) aA)) (bG _))))
theorem acV(T:Tx K mg A):Ct P w K mg base 1 A.reader "at_end" (Fe K A):=Bk T.gk T.Fw Rf (by walk_at"b1") (by walk_at"ln") (acF T) (acH T)
theorem P_:aW ["self","number"] ["self"] (aO (inClass (top 88) 2)):=by walk_at"sc"
theorem abL(T:Tx K mg A):Dv P w K mg base 0 ["self","number"] "Reader.take_number" (inClass (top 88) 2) (wg K A):=bh P_ fun _ _ _ _ _ _ _ hr S hu bf bw=>(aD (bF (i:=1) S.nd rfl (by first|exact Or.inl rfl|exact Or.inr rfl) (cA cG (aR (pv 0) rfl) (aR (pv 0) rfl) (fun _ _=>rfl))) (aD (Ww (pv 0) aK Z4) (aF (aM (pv 1)))))
theorem wB(T:Tx K mg A):Ct P w K mg base 1 A.reader "take_number" (qm K A):=Bk T.gk T.DQ P_ (by walk_at"b1") (by walk_at"ln") (abL T) (abM T)
theorem Qq:aW ["self","length","start"] ["self"] (aO (inClass (top 88) 3)):=by walk_at"sc"
theorem abX(T:Tx K mg A):Dv P w K mg base 1 ["self","length","start"] "Reader.take_list" (inClass (top 88) 3) (wD K A):=bh Qq fun _ _ _ _ _ _ _ hr S hu bf bw=>(aD (bF (i:=1) S.nd rfl (by first|exact Or.inl rfl|exact Or.inr rfl) (kI (pv 0) (wB T) hr)) (aD (bF (i:=2) S.nd rfl (by first|exact Or.inl rfl|exact Or.inr rfl) (aR (pv 0) rfl)) (aD (Ww (pv 0) (pv 1) Z4) (aF (aM (oX o7 (aR (pv 0) rfl) (jL (pv 2)) (jL (aR (pv 0) rfl))))))))
theorem Qx(T:Tx K mg A):Ct P w K mg base 2 A.reader "take_list" (wC K A):=Bk T.gk T.Eh Qq (by walk_at"b1") (by walk_at"ln") (abX T) (abY T)
theorem ZR:aW ["program","text","rows","fault"] ["program","text"] (aO (top 89)):=by walk_at"sc"
theorem ajj(T:Tx K mg A):Dv P w K mg base 6 ["program","text","rows","fault"] "load" (top 89) (z9 K A):=bh ZR fun _ _ _ _ _ _ _ hr S hu bf bw=>(aD (bD (bH iw (bZ cR (by rfl) T.cF PySem.boot_len (ao (pv 1) aA)) (bL (by rfl) T.Ge) (bG _)) (aF (aM (bR (ao (bL (by rfl) T.qt) aA)))) bC) (aD (bF (i:=2) S.nd rfl (by first|exact Or.inl rfl|exact Or.inr rfl) (aV (aeZ T) hr (ao (pv 1) aA))) (aD (bF (i:=3) S.nd rfl (by first|exact Or.inl rfl|exact Or.inr rfl) (aV (adG T) hr (ao (pv 2) aA))) (aD (bD (bH (ajH bf) (pv 3) (bR (ao aK (ao aK aA))) (bG _)) (aD (dB (pv 0) (aV (Vu T) hr (ao (pv 2) aA)) rfl) (aD (dB (pv 0) aK rfl) (aF (dB (pv 0) (Hi rfl rfl T.rE rfl T.lU (ao (bZ cR (by rfl) T.cF PySem.boot_len (ao (aR (aR (pv 0) rfl) rfl) aA)) aA)) rfl)))) bC) (aF (aM (b_ jM (bR (ao aK aA)) (pv 3))))))))
theorem akn(T:Tx K mg A):Ce P w K mg base 7 "load" ["program","text"] (L_ K A):=T.MK.ce ZR (by walk_at"b2") (by walk_at"ln") (ajj T) (ake T)
theorem U8:aW ["program","x"] ["program","x"] (aO (top 90)):=by walk_at"sc"
theorem aei(T:Tx K mg A):Dv P w K mg base 0 ["program","x"] "set_state" (top 90) (yC K A):=bh U8 fun _ _ _ _ _ _ _ hr S hu bf bw=>(aD (bD (ig (uy jP jP aK (pv 1) (bL (by rfl) T.Et))) (aF (aM (bR (ao (bL (by rfl) T.qt) aA)))) bC) (aD (dB (pv 0) (b_ pA (pv 1) (aR (aR (pv 0) rfl) rfl)) rfl) (aF (aM (bR (ao aK (ao (aR (pv 0) rfl) aA)))))))
theorem ae5(T:Tx K mg A):Ce P w K mg base 1 "set_state" ["program","x"] (HF K A):=T.Iu.ce U8 (by walk_at"b2") (by walk_at"ln") (aei T) (aeR T)
theorem Ws:aW ["program","order"] ["program","order"] (aO (top 91)):=by walk_at"sc"
theorem af9(T:Tx K mg A):Dv P w K mg base 0 ["program","order"] "arrange" (top 91) (yP K A):=bh Ws fun _ _ _ _ _ _ _ hr S hu bf bw=>(aD (bD (bH (ajI bf) (bZ afi (by rfl) T.uD Uc (ao (pv 1) aA)) (Hi rfl rfl T.rE rfl T.lU (ao (bZ cR (by rfl) T.cF PySem.boot_len (ao (aR (aR (pv 0) rfl) rfl) aA)) aA)) (bG _)) (aF (aM (bR (ao (bL (by rfl) T.qt) aA)))) bC) (aD (dB (pv 0) (pv 1) rfl) (aF (aM (bR (ao aK aA))))))
theorem aha(T:Tx K mg A):Ce P w K mg base 1 "arrange" ["program","order"] (Jv K A):=T.JX.ce Ws (by walk_at"b2") (by walk_at"ln") (af9 T) (ag0 T)
theorem ZS:aW ["program"] ["program"] (aO (top 92)):=by walk_at"sc"
theorem ajk(T:Tx K mg A):Dv P w K mg base 0 ["program"] "told" (top 92) (z_ K A):=bh ZS fun _ _ _ _ _ _ _ hr S hu bf bw=>(aF (aM (b_ jM (bR (ao aK (ao (aR (pv 0) rfl) aA))) (aR (pv 0) rfl))))
theorem ako(T:Tx K mg A):Ce P w K mg base 1 "told" ["program"] (Mf K A):=T.MN.ce ZS (by walk_at"b1") (by walk_at"ln") (ajk T) (akc T)
theorem U9:aW ["program"] ["program"] (aO (top 93)):=by walk_at"sc"
theorem aej(T:Tx K mg A):Dv P w K mg base 7 ["program"] "pass_once" (top 93) (yD K A):=bh U9 fun _ _ _ _ _ _ _ hr S hu bf bw=>(aD (dB (pv 0) (aV (Qo T) hr (ao (aR (pv 0) rfl) (ao (aR (pv 0) rfl) (ao (aR (pv 0) rfl) aA)))) rfl) (aF (aM (bR (ao aK (ao (aR (pv 0) rfl) aA))))))
theorem ae6(T:Tx K mg A):Ce P w K mg base 8 "pass_once" ["program"] (HJ K A):=T.Iv.ce U9 (by walk_at"b1") (by walk_at"ln") (aej T) (aeQ T)
theorem Y0:aW ["program"] ["program"] (aO (top 94)):=by walk_at"sc"
theorem aie(T:Tx K mg A):Dv P w K mg base 6 ["program"] "rungs" (top 94) (zJ K A):=bh Y0 fun _ _ _ _ _ _ _ hr S hu bf bw=>(aF (aM (b_ jM (bR (ao aK aA)) (aV (P0 T) hr (ao (aR (pv 0) rfl) (ao (aR (pv 0) rfl) (ao (aR (pv 0) rfl) aA)))))))
theorem ajl(T:Tx K mg A):Ce P w K mg base 7 "rungs" ["program"] (KZ K A):=T.Lx.ce Y0 (by walk_at"b1") (by walk_at"ln") (aie T) (ai6 T)
theorem Y4:aW ["program","scan"] ["program"] (aO (top 95)):=by walk_at"sc"
theorem aif(T:Tx K mg A):Dv P w K mg base 8 ["program","scan"] "until" (top 95) (zK K A):=bh Y4 fun _ _ _ _ _ _ _ hr S hu bf bw=>(aD (bD (bH iw (bZ cR (by rfl) T.cF PySem.boot_len (ao (aR (aR (pv 0) rfl) rfl) aA)) (bL (by rfl) T.v9) (bG _)) (aF (aM (bR (ao (bL (by rfl) T.m8) aA)))) bC) (aD (bF (i:=1) S.nd rfl (by first|exact Or.inl rfl|exact Or.inr rfl) (aV (Kg T) hr (ao (aR (pv 0) rfl) (ao (aR (pv 0) rfl) (ao (aR (pv 0) rfl) aA))))) (aD (bD (fC (kI (pv 1) (Ei T) hr)) (aF (aM (bR (ao (bL (by rfl) T.tQ) aA)))) bC) (aD (dB (pv 0) (cA cG (aR (pv 1) rfl) (rG uM aK) (fun _ _=>rfl)) rfl) (aF (aM (bR (ao aK (ao (aR (pv 0) rfl) (ao (b_ rB (bZ cR (by rfl) T.cF PySem.boot_len (ao (aR (pv 1) rfl) aA)) aK) aA))))))))))
theorem ajm(T:Tx K mg A):Ce P w K mg base 9 "until" ["program"] (K4 K A):=T.Ly.ce Y4 (by walk_at"b1") (by walk_at"ln") (aif T) (ajh T)
theorem T_:aW ["program","scan"] ["program"] (aO (top 96)):=by walk_at"sc"
theorem adM(T:Tx K mg A):Dv P w K mg base 8 ["program","scan"] "tell_round" (top 96) (xY K A):=bh T_ fun _ _ _ _ _ _ _ hr S hu bf bw=>(aD (bD (bH iw (bZ cR (by rfl) T.cF PySem.boot_len (ao (aR (aR (pv 0) rfl) rfl) aA)) (bL (by rfl) T.v9) (bG _)) (aF (aM (bR (ao (bL (by rfl) T.m8) aA)))) bC) (aD (bF (i:=1) S.nd rfl (by first|exact Or.inl rfl|exact Or.inr rfl) (aV (Kg T) hr (ao (aR (pv 0) rfl) (ao (aR (pv 0) rfl) (ao (aR (pv 0) rfl) aA))))) (aD (bD (ig (fC (kI (pv 1) (Ei T) hr))) (aF (aM (bR (ao (bL (by rfl) T.tQ) aA)))) bC) (aF (aM (b_ jM (bR (ao aK (ao (aR (pv 1) rfl) aA))) (oX o7 (aR (pv 1) rfl) (jL (aR (pv 1) rfl)) nH)))))))
theorem aek(T:Tx K mg A):Ce P w K mg base 9 "tell_round" ["program"] (G3 K A):=T.Hy.ce T_ (by walk_at"b1") (by walk_at"ln") (adM T) (ad2 T)
theorem ZV:aW ["program","relay"] ["program","relay"] (aO (top 98)):=by walk_at"sc"
theorem ajn(T:Tx K mg A):Dv P w K mg base 6 ["program","relay"] "hang" (top 98) (Ab K A):=bh ZV fun _ _ _ _ _ _ _ hr S hu bf bw=>(aD (bD (ig (uy jP Nj aK (pv 1) (bZ cR (by rfl) T.cF PySem.boot_len (ao (aR (aR (pv 0) rfl) rfl) aA)))) (aF (aM (bR (ao (bL (by rfl) T.qt) aA)))) bC) (aD (bD (fC (aV (R4 T) hr (ao (aR (pv 0) rfl) aA))) (aF (aM (bR (ao (bL (by rfl) T.m8) aA)))) bC) (aF (aM (b_ jM (bR (ao aK aA)) (aV (U6 T) hr (ao (aR (pv 0) rfl) (ao (pv 1) aA))))))))
theorem akp(T:Tx K mg A):Ce P w K mg base 7 "hang" ["program","relay"] (Ma K A):=T.M4.ce ZV (by walk_at"b2") (by walk_at"ln") (ajn T) (akh T)
theorem Ua:aW ["program","order"] ["program"] (aO (top 99)):=by walk_at"sc"
theorem adN(T:Tx K mg A):Dv P w K mg base 7 ["program","order"] "tell_order" (top 99) (xZ K A):=bh Ua fun _ _ _ _ _ _ _ hr S hu bf bw=>(aD (bD (fC (aV (R4 T) hr (ao (aR (pv 0) rfl) aA))) (aF (aM (bR (ao (bL (by rfl) T.m8) aA)))) bC) (aD (bF (i:=1) S.nd rfl (by first|exact Or.inl rfl|exact Or.inr rfl) (aV (aeg T) hr (ao (aR (pv 0) rfl) aA))) (aD (bD (bH Mq (pv 1) fL (bG _)) (aF (aM (bR (ao (bL (by rfl) T.tQ) aA)))) bC) (aF (aM (b_ jM (bR (ao aK aA)) (pv 1)))))))
theorem ael(T:Tx K mg A):Ce P w K mg base 8 "tell_order" ["program"] (G5 K A):=T.Hz.ce Ua (by walk_at"b1") (by walk_at"ln") (adN T) (ad3 T)
theorem ZW:aW ["program","relays","unsure"] ["program"] (aO (top 100)):=by walk_at"sc"
theorem ajo(T:Tx K mg A):Dv P w K mg base 7 ["program","relays","unsure"] "sure" (top 100) (Ac K A):=bh ZW fun _ _ _ _ _ _ _ hr S hu bf bw=>(aD (bF (i:=1) S.nd rfl (by first|exact Or.inl rfl|exact Or.inr rfl) (bZ cR (by rfl) T.cF PySem.boot_len (ao (aR (aR (pv 0) rfl) rfl) aA))) (aD (bD (PW.pt (jO (bH iw (pv 1) (bL (by rfl) T.Dz) (bG _)) (pq (bH iw (b_ uK (aR (aR (pv 0) rfl) rfl) (pv 1)) (bL (by rfl) T.Dl) (bG _))))) (aF (aM (bR (ao (bL (by rfl) T.m8) aA)))) bC) (aD (bF (i:=2) S.nd rfl (by first|exact Or.inl rfl|exact Or.inr rfl) (aV (adk T) hr (ao (aR (pv 0) rfl) aA))) (aD (bD (bH Mq (pv 2) fL (bG _)) (aF (aM (bR (ao aK (ao aK aA))))) bC) (aF (aM (b_ jM (bR (ao aK (ao aK aA))) (pv 2))))))))
theorem akq(T:Tx K mg A):Ce P w K mg base 8 "sure" ["program"] (Mg K A):=T.M5.ce ZW (by walk_at"b1") (by walk_at"ln") (ajo T) (aki T)
theorem ZX:aW ["program","scans","rests","scan","round_too"] ["program"] (aO (top 101)):=by walk_at"sc"
theorem ajp(T:Tx K mg A):Dv P w K mg base 9 ["program","scans","rests","scan","round_too"] "some" (top 101) (Ae K A):=bh ZX fun _ _ _ _ _ _ _ hr S hu bf bw=>(aD (bD (bH iw (bZ cR (by rfl) T.cF PySem.boot_len (ao (aR (aR (pv 0) rfl) rfl) aA)) (bL (by rfl) T.Dm) (bG _)) (aF (aM (bR (ao (bL (by rfl) T.m8) aA)))) bC) (aD (bF (i:=1) S.nd rfl (by first|exact Or.inl rfl|exact Or.inr rfl) (aV (abJ T) hr (ao (aR (pv 0) rfl) (ao (aR (pv 0) rfl) aA)))) (aD (nj (i:=2) rfl S.nd rfl rfl (nJ rfl rfl rfl rfl) (cY (pv 1)) (dN (own:=[("scan",3)]) (by kernel_rfl)) (fun _ _ _ _ _=>(bN (i:=3) S.nd rfl (by first|exact Or.inl rfl|exact Or.inr rfl) (by first|exact Or.inl rfl|exact Or.inr rfl))) (fun _ _ _ _ _=>(lO (ig (fC (kI (pv 3) (Ei T) hr))))) (fun _ _ _ _ _=>(cA cG (aR (pv 3) rfl) (rG uM aK) (fun _ _=>rfl)))) (aD (bF (i:=4) S.nd rfl (by first|exact Or.inl rfl|exact Or.inr rfl) (Kl (bH Nj (bZ cR (by rfl) T.cF PySem.boot_len (ao (pv 2) aA)) (bZ cR (by rfl) T.cF PySem.boot_len (ao (pv 1) aA)) (bG _)) aK aK)) (aF (aM (b_ jM (bR (ao aK (ao (pv 4) aA))) (V3 rfl rfl T.uD rfl T.Bc (ao (pv 2) aA)))))))))
theorem akr(T:Tx K mg A):Ce P w K mg base 10 "some" ["program"] (Mh K A):=T.M6.ce ZX (by walk_at"b1") (by walk_at"ln") (ajp T) (akj T)
end
section
variable{P:Program}{w:World}{K:PySem.W.Frag}{mg:Str→Option Value}{base:Heap}{A:Ad}
theorem Tj:aW ["program","reader","call"] ["program","reader"] (aO (top 102)):=by walk_at"sc"
theorem adn(T:Tx K mg A):Dv P w K mg base 10 ["program","reader","call"] "answer_call" (top 102) (xQ K A):=bh Tj fun _ _ _ _ _ _ _ hr S hu bf bw=>(aD (bF (i:=2) S.nd rfl (by first|exact Or.inl rfl|exact Or.inr rfl) (kI (pv 1) (wB T) hr)) (aD (bD (bH dJ (pv 2) aK (bG _)) (aF (aM (aV (akn T) hr (ao (pv 0) (ao (kI (pv 1) (Qx T) hr) aA))))) bC) (aD (bD (bH dJ (pv 2) aK (bG _)) (aF (aM (aV (ae5 T) hr (ao (pv 0) (ao (kI (pv 1) (wB T) hr) aA))))) bC) (aD (bD (bH dJ (pv 2) aK (bG _)) (aF (aM (aV (aha T) hr (ao (pv 0) (ao (kI (pv 1) (Qx T) hr) aA))))) bC) (aD (bD (bH dJ (pv 2) aK (bG _)) (aF (aM (aV (ako T) hr (ao (pv 0) aA)))) bC) (aD (bD (bH dJ (pv 2) aK (bG _)) (aF (aM (aV (ae6 T) hr (ao (pv 0) aA)))) bC) (aD (bD (bH dJ (pv 2) aK (bG _)) (aF (aM (aV (ajl T) hr (ao (pv 0) aA)))) bC) (aD (bD (bH dJ (pv 2) aK (bG _)) (aF (aM (aV (ajm T) hr (ao (pv 0) aA)))) bC) (aD (bD (bH dJ (pv 2) aK (bG _)) (aF (aM (aV (aek T) hr (ao (pv 0) aA)))) bC) (aD (bD (bH dJ (pv 2) aK (bG _)) (aF (aM (aV (akp T) hr (ao (pv 0) (ao (kI (pv 1) (wB T) hr) aA))))) bC) (aD (bD (bH dJ (pv 2) aK (bG _)) (aF (aM (aV (ael T) hr (ao (pv 0) aA)))) bC) (aD (bD (bH dJ (pv 2) aK (bG _)) (aF (aM (aV (akq T) hr (ao (pv 0) aA)))) bC) (aD (bD (bH dJ (pv 2) aK (bG _)) (aF (aM (aV (akr T) hr (ao (pv 0) aA)))) bC) (aF ahd))))))))))))))
theorem adO(T:Tx K mg A):Ce P w K mg base 11 "answer_call" ["program","reader"] (Gx K A):=T.GQ.ce Tj (by walk_at"b2") (by walk_at"ln") (adn T) (adC T)
theorem Wt:aW ["calls","program","reader","numbers","answer"] ["calls"] (aO (top 103)):=by walk_at"sc"
theorem af_(T:Tx K mg A):Dv P w K mg base 11 ["calls","program","reader","numbers","answer"] "answers" (top 103) (yQ K A):=bh Wt fun _ _ _ _ _ _ _ hr S hu bf bw=>(aD (bF (i:=1) S.nd rfl (by first|exact Or.inl rfl|exact Or.inr rfl) (ajP (ag9 T) hr)) (aD (bF (i:=2) S.nd rfl (by first|exact Or.inl rfl|exact Or.inr rfl) (pG (aic T) hr (ao (pv 0) aA))) (aD (bF (i:=3) S.nd rfl (by first|exact Or.inl rfl|exact Or.inr rfl) (bR aA)) (aD (ux PassesOwn.never (ig (fC (kI (pv 2) (acV T) hr))) (aD (bF (i:=4) S.nd rfl (by first|exact Or.inl rfl|exact Or.inr rfl) (aV (adO T) hr (ao (pv 1) (ao (pv 2) aA)))) (aD (jK (jQ PySem.F.plainAttrs_list PySem.F.slot_list_append PySem.F.type_list_append oV (pv 3) (ao (bZ cR (by rfl) T.cF PySem.boot_len (ao (pv 4) aA)) aA))) (aF (jK (jQ PySem.F.plainAttrs_list PySem.F.slot_list_extend PySem.F.type_list_extend WL (pv 3) (ao (pv 4) aA))))))) (aF (aM (pv 3)))))))
end
theorem aks{P:Program}{w:World}{K:PySem.W.Frag}{mg:Str→Option Value}{A:Ad}{fa:Addr}(T:Tx K mg A)(hfa:mg "answers"=some (.ref fa)):
 ∃fd:FuncData,(∀(s:Shared) (us:List Value),us.length=(["calls"]:List Str).length→BindsTo s fd ⟨us,[]⟩ ((["calls"]:List Str).zip us))∧∀base:Heap,K.In base→base.Ns mainGlobals mg→iC P w K mg base jc 12 fa fd ["calls"] (Bj K):=by
 obtain⟨f,fd,F,hm⟩:=T.JZ
 rw[hfa] at hm
 cases hm
 refine⟨fd,?_,fun base _ _=>F.ok (sp:=Wm K A) Wt (fun vs H Q E h=>by obtain⟨_,_,e,_⟩:=h;subst e;rfl) (fun cdv Ar outer s H vs Q E hr h=>⟨_,af_ T _ cdv Ar outer s H E hr,ag6 T vs H Q E h⟩)⟩
 obtain⟨oc,od,kV,doc,pm,an,cdv,ct,osl,rfl,lk,hcd⟩:=F.ex
 exact fun s us hu=>match us,hu with| [_],_=>.of_eq rfl
theorem ajq{P:Program}{w:World}{K:PySem.W.Frag}{mg:Str→Option Value}{a0 a1 a2 a3 a4 a5 a6 a7 a8 a9 a10 a11 a12 fa:Addr}(T:Tx K mg ⟨a0,a1,a2,a3,a4,a5,a6,a7,a8,a9,a10,a11,a12⟩)(hfa:mg "answers"=some (.ref fa)):
 ∃fd:FuncData,(∀(s:Shared) (us:List Value),us.length=(["calls"]:List Str).length→BindsTo s fd ⟨us,[]⟩ ((["calls"]:List Str).zip us))∧∀base:Heap,K.In base→base.Ns mainGlobals mg→iC P w K mg base jc 12 fa fd ["calls"] (Bj K):=aks T hfa
theorem dj{K:PySem.W.Frag}{h:Heap}{mg:Str→Option Value}{x:Str}{v:V}{u:Value}(X:K.In h)(G:h.Ns mainGlobals mg)(a:PySem.W.nsIn K mainGlobals x=some (some u))(r:RelV v u):∃u,mg x=some u∧RelV v u:=⟨u,PySem.W.mg_of X G a,r⟩
theorem bJ{K:PySem.W.Frag}{h:Heap}{mg:Str→Option Value}{x qual:Str}{st:Stmt}{f:Addr}{oc:Value}{od an:Option Addr}{osl:Array (Option Value)}{kV doc pm cdv ct:Value}(X:K.In h)(G:h.Ns mainGlobals mg)(a:PySem.W.nsIn K mainGlobals x=some (some (.ref f)))
 (l:K.lookup f=some ⟨oc,od,.func (PySem.W.fnOf x qual (lR st) (iQ st) (aO st) .none kV doc pm an cdv ct),osl⟩)(c:PySem.W.codeIn K cdv qual=true)(k:PySem.W.keepIn K (.ref f)=true):Df K mg x qual st:=⟨f,_,Mw l c k,PySem.W.mg_of X G a⟩
theorem rW{K:PySem.W.Frag}{x qual:Str}{st:Stmt}{C f:Addr}{oc:Value}{od an:Option Addr}{osl:Array (Option Value)}{kV doc pm cdv ct:Value}(a1:PySem.W.makesIn K C=true)(a2:PySem.W.findIn K (.ref C) "__init__"=some (some (.ref f)))(a3:PySem.W.isFn K (.ref f)=true)(a4:PySem.W.keepIn K (.ref C)=true)
 (l:K.lookup f=some ⟨oc,od,.func (PySem.W.fnOf x qual (lR st) (iQ st) (aO st) .none kV doc pm an cdv ct),osl⟩)(c:PySem.W.codeIn K cdv qual=true)(k:PySem.W.keepIn K (.ref f)=true):∃f fd,Mk K C f∧fu K x qual st f fd:=⟨f,_,⟨a1,a2,a3,a4⟩,Mw l c k⟩
theorem Bl{K:PySem.W.Frag}{m x qual:Str}{st:Stmt}{C f:Addr}{oc:Value}{od an:Option Addr}{osl:Array (Option Value)}{kV doc pm cdv ct:Value}(a2:PySem.W.findIn K (.ref C) m=some (some (.ref f)))(a3:PySem.W.isFn K (.ref f)=true)(a4:PySem.W.keepIn K (.ref f)=true)
 (l:K.lookup f=some ⟨oc,od,.func (PySem.W.fnOf x qual (lR st) (iQ st) (aO st) .none kV doc pm an cdv ct),osl⟩)(c:PySem.W.codeIn K cdv qual=true):∃f fd,Meth K C m f∧fu K x qual st f fd:=⟨f,_,⟨a2,a3,a4⟩,Mw l c a4⟩
theorem aaR{K:PySem.W.Frag}{a:Addr}{o:Obj}{xs:List V}(l:K.lookup a=some o)(h:∃(its:Array Value) (n:Nat),o.cls= .type "tuple"∧o.data= .seq its n∧its.size≤sizeLine∧Vals xs its.toList)(H:Hp):bK K H a xs:=by
 obtain⟨its,n,h1,h2,h3,h4⟩:=h
 exact .inr ⟨o,its,n,l,h1,h2,h3,h4⟩
end R
namespace PySem.W.Fast
def tw439631277067383719:=0
def tw9554667644009152779:=0
def tw13152778358842067060:=0
def tw13287643700701883812:=0
def tw15791125688986766173:=0
def tw14045593589832446671:=0
def tw2693132121661665252:=0
def tw1418463567212807313:=0
def tw9211305823720530009:=0
def tw758100953809461002:=0
def tw7070975535683209958:=0
def tw15393610336686790977:=0
def tw4635213263903793776:=0
def tw15169472021618503897:=0
def tw3808346498120275008:=0
def tw16320247829981405639:=0
def tw11560622772692539018:=0
def tw14403420473063077958:=0
def tw2766532035624451895:=0
def tw10014874745684203222:=0
def tw9157761522487449355:=0
def tw17431152321185321560:=0
def tw2407470785997069510:=0
def tw16586129452430131184:=0
def tw14887339010678644756:=0
def tw15895350345450649386:=0
def tw9795942015521515775:=0
def tw15170794361046722624:=0
def tw6362483020472605539:=0
def tw9322023868092904456:=0
def tw7862503990906151249:=0
def tw2154509294079523041:=0
def tw2379253049139931396:=0
def tw6078257528815593740:=0
def tw3348001788347836382:=0
def tw16155092400142864672:=0
def tw3727107767621943548:=0
def tw8134772806966012892:=0
def tw7260392382212530824:=0
def tw10927625494351921742:=0
def tw16468914968785243646:=0
def tw1582116770121898072:=0
def tw292338334317602828:=0
def tw1632895651464676630:=0
def tw2251934039486002067:=0
def tw16033436410957083413:=0
def tw17469047862617710382:=0
def tw8335596819227152916:=0
def tw16670692538358127293:=0
def tw16965446427755412118:=0
def tw1436302415434805567:=0
def tw16065284015657672764:=0
def tw16007064478936029144:=0
def tw1196621358151647255:=0
def tw12806915662336934394:=0
def tw12269265460829013779:=0
def tw18119967813760403471:=0
def tw10646517383796241300:=0
def tw17908268764312677408:=0
def tw10460231349764543322:=0
def tw10760344964611627416:=0
def tw11199640077427457730:=0
def tw12429931723862426811:=0
def tw12115495572251146233:=0
def tw10047021927350569065:=0
def tw13684675450929900735:=0
def tw5183730803318743026:=0
def tw755310774581712615:=0
def tw12016552391062074810:=0
def tw3458617697802857202:=0
def tw5499562019142431861:=0
def tw14392263828219365229:=0
def tw17943996143854524081:=0
def tw1696540017496097355:=0
def tw13170450827509880244:=0
def tw10638349796038197645:=0
def tw3185575598190364581:=0
def tw10563106818106540215:=0
def tw2000377718036432304:=0
def tw5288909450672178043:=0
def tw16017080458070222743:=0
def tw9792093741112306643:=0
def tw11239963627040209581:=0
def tw2675382696231849170:=0
def tw14873907238901637862:=0
def tw4434135260975163866:=0
def tw507286666619180206:=0
def tw10284232084195503955:=0
def tw9059711903700113913:=0
def tw2182612674123144073:=0
def tw16815571865278432578:=0
def tw6704564064821510017:=0
def tw9144834154194982860:=0
def tw3223918991035072557:=0
def tw7271257346211006868:=0
def tw8364973660887012854:=0
def tw13666746230397249200:=0
def tw284490176373436296:=0
def tw16608562990880297382:=0
def tw3616758011164550570:=0
def tw14062315167233729322:=0
def tw12571020647546454671:=0
def tw5047070099297557726:=0
def tw2592531262376330399:=0
def tw10525943777144056290:=0
def tw10381094428895841464:=0
def tw16740306322001230372:=0
def tw8369189926667748890:=0
end PySem.W.Fast
open PySem PySem.W PyProof.Rows
set_option maxRecDepth 100000 in
set_option maxHeartbeats 0 in
theorem PySem.Challenge.cw_rungpasses_s01_answers_holds : PySem.Challenge.rw_rungpasses_s01_answers.Holds := by
 w_on;k_headS;(case hw=>exact⟨[.list [.int 4]],by decide+kernel,by decide+kernel⟩)
 k_fillS
 refine L2.afg (r:=PySem.Challenge.rw_rungpasses_s01_answers) (k:=12) (CX:=L2.jc) (ps:=["calls"]) (sp:=R.Bj) (by decide+kernel) rfl rfl ⟨rfl,by decide,by decide⟩ (fun w h Y=>PySem.W.kIn_of Y) ?F ?S (fun _ _ _ _ z=>z)
 case F=>
  intro w mg fa h Y KX G hmg
  refine' R.ajq (R.Tx.mk ?cF ?rP ?rQ ?rE ?lU ?Bb ?uD ?jG ?Bc ?uq ?zF ?JQ ?o9 ?q_ ?MF ?qK ?Gd ?wW ?Es ?GF ?Al ?oN ?Am ?MJ ?Fo ?Ge ?Et ?v9 ?DY ?Dz ?Dl ?Dm ?qt ?m8 ?tQ ?oR ?Gf ?m_ ?zf ?Eu ?Ih ?Gg ?Fp ?Gh ?JR ?JT ?Ii ?JV ?Hr ?Hs ?Ij ?Ht ?Gi ?Ik ?Il ?Ew ?Im ?Gj ?Fq ?Gk ?GJ ?GK ?Jk ?Io ?Gm ?D_ ?Ip ?Ey ?Gn ?DG ?Hu ?Ez ?EY ?GP ?Jl ?Hv ?Jm ?Hw ?DK ?Ir ?Ft ?E_ ?Gp ?Gq ?Ea ?DN ?Eb ?JW ?Hx ?DP ?MK ?Iu ?JX ?MN ?Iv ?Lx ?Ly ?Hy ?Fv ?M4 ?Hz ?M5 ?M6 ?GQ ?JZ ?eU ?gZ ?jH ?tR ?yt ?Nr ?Nt ?m9 ?tE ?wJ ?wX ?J0 ?J1 ?cW ?wY ?iJ ?tG ?tu ?qy ?qu ?Kz ?KC ?iR ?m7 ?qC ?M7 ?M8 ?Ef ?bY ?dW ?gj ?j4 ?J2 ?J3 ?gk ?qw ?lA ?KD ?KH ?Fw ?DQ ?Eh) hmg
  all_goals (try dsimp only)
  (case oR=>(apply R.dj KX G;k_is;rfl))
  (case m_=>(apply R.dj KX G;k_is;rfl))
  (case Eu=>(refine PySem.W.mg_of KX G ?_;k_is))
  (case Ih=>(refine PySem.W.mg_of KX G ?_;k_is))
  (case Gg=>(refine PySem.W.mg_of KX G ?_;k_is))
  (case Fp=>(refine PySem.W.mg_of KX G ?_;k_is))
  (case Gh=>(refine PySem.W.mg_of KX G ?_;k_is))
  (case Nr=>(refine PySem.W.mg_of KX G ?_;k_is))
  (case J0=>(refine PySem.W.mg_of KX G ?_;k_is))
  (case Kz=>(refine PySem.W.mg_of KX G ?_;k_is))
  (case M7=>(refine PySem.W.mg_of KX G ?_;k_is))
  (case J2=>(refine PySem.W.mg_of KX G ?_;k_is))
  (case KD=>(refine PySem.W.mg_of KX G ?_;k_is))
  (case cF=>(refine PySem.W.mg_none_of KX G ?_;k_is))
  (case rP=>(refine PySem.W.mg_none_of KX G ?_;k_is))
  (case rQ=>(refine PySem.W.mg_none_of KX G ?_;k_is))
  (case rE=>(refine PySem.W.mg_none_of KX G ?_;k_is))
  (case lU=>(refine PySem.W.mg_none_of KX G ?_;k_is))
  (case Bb=>(refine PySem.W.mg_none_of KX G ?_;k_is))
  (case uD=>(refine PySem.W.mg_none_of KX G ?_;k_is))
  (case jG=>(refine PySem.W.mg_none_of KX G ?_;k_is))
  (case Bc=>(refine PySem.W.mg_none_of KX G ?_;k_is))
  (case uq=>(apply R.dj KX G;k_is;exact⟨_,rfl⟩))
  (case zF=>(apply R.dj KX G;k_is;exact⟨_,rfl⟩))
  (case JQ=>(apply R.dj KX G;k_is;exact⟨_,rfl⟩))
  (case o9=>(apply R.dj KX G;k_is;exact⟨_,rfl⟩))
  (case q_=>(apply R.dj KX G;k_is;exact⟨_,rfl⟩))
  (case MF=>(apply R.dj KX G;k_is;exact⟨_,rfl⟩))
  (case qK=>(apply R.dj KX G;k_is;exact⟨_,rfl⟩))
  (case Gd=>(apply R.dj KX G;k_is;exact⟨_,rfl⟩))
  (case wW=>(apply R.dj KX G;k_is;exact⟨_,rfl⟩))
  (case Es=>(apply R.dj KX G;k_is;exact⟨_,rfl⟩))
  (case GF=>(apply R.dj KX G;k_is;exact⟨_,rfl⟩))
  (case Al=>(apply R.dj KX G;k_is;exact⟨_,rfl⟩))
  (case oN=>(apply R.dj KX G;k_is;exact⟨_,rfl⟩))
  (case Am=>(apply R.dj KX G;k_is;exact⟨_,rfl⟩))
  (case MJ=>(apply R.dj KX G;k_is;exact⟨_,rfl⟩))
  (case Fo=>(apply R.dj KX G;k_is;exact⟨_,rfl⟩))
  (case Ge=>(apply R.dj KX G;k_is;exact⟨_,rfl⟩))
  (case Et=>(apply R.dj KX G;k_is;exact⟨_,rfl⟩))
  (case v9=>(apply R.dj KX G;k_is;exact⟨_,rfl⟩))
  (case DY=>(apply R.dj KX G;k_is;exact⟨_,rfl⟩))
  (case Dz=>(apply R.dj KX G;k_is;exact⟨_,rfl⟩))
  (case Dl=>(apply R.dj KX G;k_is;exact⟨_,rfl⟩))
  (case Dm=>(apply R.dj KX G;k_is;exact⟨_,rfl⟩))
  (case qt=>(apply R.dj KX G;k_is;exact⟨_,rfl⟩))
  (case m8=>(apply R.dj KX G;k_is;exact⟨_,rfl⟩))
  (case tQ=>(apply R.dj KX G;k_is;exact⟨_,rfl⟩))
  (case JR=>(apply R.bJ KX G;k_is;k_is;k_is;k_is))
  (case JT=>(apply R.bJ KX G;k_is;k_is;k_is;k_is))
  (case Ii=>(apply R.bJ KX G;k_is;k_is;k_is;k_is))
  (case JV=>(apply R.bJ KX G;k_is;k_is;k_is;k_is))
  (case Hr=>(apply R.bJ KX G;k_is;k_is;k_is;k_is))
  (case Hs=>(apply R.bJ KX G;k_is;k_is;k_is;k_is))
  (case Ij=>(apply R.bJ KX G;k_is;k_is;k_is;k_is))
  (case Ht=>(apply R.bJ KX G;k_is;k_is;k_is;k_is))
  (case Gi=>(apply R.bJ KX G;k_is;k_is;k_is;k_is))
  (case Ik=>(apply R.bJ KX G;k_is;k_is;k_is;k_is))
  (case Il=>(apply R.bJ KX G;k_is;k_is;k_is;k_is))
  (case Ew=>(apply R.bJ KX G;k_is;k_is;k_is;k_is))
  (case Im=>(apply R.bJ KX G;k_is;k_is;k_is;k_is))
  (case Gj=>(apply R.bJ KX G;k_is;k_is;k_is;k_is))
  (case Fq=>(apply R.bJ KX G;k_is;k_is;k_is;k_is))
  (case Gk=>(apply R.bJ KX G;k_is;k_is;k_is;k_is))
  (case GJ=>(apply R.bJ KX G;k_is;k_is;k_is;k_is))
  (case GK=>(apply R.bJ KX G;k_is;k_is;k_is;k_is))
  (case Jk=>(apply R.bJ KX G;k_is;k_is;k_is;k_is))
  (case Io=>(apply R.bJ KX G;k_is;k_is;k_is;k_is))
  (case Gm=>(apply R.bJ KX G;k_is;k_is;k_is;k_is))
  (case D_=>(apply R.bJ KX G;k_is;k_is;k_is;k_is))
  (case Ip=>(apply R.bJ KX G;k_is;k_is;k_is;k_is))
  (case Ey=>(apply R.bJ KX G;k_is;k_is;k_is;k_is))
  (case Gn=>(apply R.bJ KX G;k_is;k_is;k_is;k_is))
  (case DG=>(apply R.bJ KX G;k_is;k_is;k_is;k_is))
  (case Hu=>(apply R.bJ KX G;k_is;k_is;k_is;k_is))
  (case Ez=>(apply R.bJ KX G;k_is;k_is;k_is;k_is))
  (case EY=>(apply R.bJ KX G;k_is;k_is;k_is;k_is))
  (case GP=>(apply R.bJ KX G;k_is;k_is;k_is;k_is))
  (case Jl=>(apply R.bJ KX G;k_is;k_is;k_is;k_is))
  (case Hv=>(apply R.bJ KX G;k_is;k_is;k_is;k_is))
  (case Jm=>(apply R.bJ KX G;k_is;k_is;k_is;k_is))
  (case Hw=>(apply R.bJ KX G;k_is;k_is;k_is;k_is))
  (case DK=>(apply R.bJ KX G;k_is;k_is;k_is;k_is))
  (case Ir=>(apply R.bJ KX G;k_is;k_is;k_is;k_is))
  (case Ft=>(apply R.bJ KX G;k_is;k_is;k_is;k_is))
  (case E_=>(apply R.bJ KX G;k_is;k_is;k_is;k_is))
  (case Gp=>(apply R.bJ KX G;k_is;k_is;k_is;k_is))
  (case Gq=>(apply R.bJ KX G;k_is;k_is;k_is;k_is))
  (case Ea=>(apply R.bJ KX G;k_is;k_is;k_is;k_is))
  (case DN=>(apply R.bJ KX G;k_is;k_is;k_is;k_is))
  (case Eb=>(apply R.bJ KX G;k_is;k_is;k_is;k_is))
  (case JW=>(apply R.bJ KX G;k_is;k_is;k_is;k_is))
  (case Hx=>(apply R.bJ KX G;k_is;k_is;k_is;k_is))
  (case DP=>(apply R.bJ KX G;k_is;k_is;k_is;k_is))
  (case MK=>(apply R.bJ KX G;k_is;k_is;k_is;k_is))
  (case Iu=>(apply R.bJ KX G;k_is;k_is;k_is;k_is))
  (case JX=>(apply R.bJ KX G;k_is;k_is;k_is;k_is))
  (case MN=>(apply R.bJ KX G;k_is;k_is;k_is;k_is))
  (case Iv=>(apply R.bJ KX G;k_is;k_is;k_is;k_is))
  (case Lx=>(apply R.bJ KX G;k_is;k_is;k_is;k_is))
  (case Ly=>(apply R.bJ KX G;k_is;k_is;k_is;k_is))
  (case Hy=>(apply R.bJ KX G;k_is;k_is;k_is;k_is))
  (case Fv=>(apply R.bJ KX G;k_is;k_is;k_is;k_is))
  (case M4=>(apply R.bJ KX G;k_is;k_is;k_is;k_is))
  (case Hz=>(apply R.bJ KX G;k_is;k_is;k_is;k_is))
  (case M5=>(apply R.bJ KX G;k_is;k_is;k_is;k_is))
  (case M6=>(apply R.bJ KX G;k_is;k_is;k_is;k_is))
  (case GQ=>(apply R.bJ KX G;k_is;k_is;k_is;k_is))
  (case JZ=>(apply R.bJ KX G;k_is;k_is;k_is;k_is))
  (case eU=>(refine⟨?_,?_,?_,?_⟩<;>k_is))
  (case gZ=>(show PySem.W.findIn _ _ _=some none;k_is))
  (case jH=>(show PySem.W.findIn _ _ _=some none;k_is))
  (case tR=>(show PySem.W.findIn _ _ _=some none;k_is))
  (case yt=>(show PySem.W.findIn _ _ _=some none;k_is))
  (case Nt=>(apply R.rW;k_is;k_is;k_is;k_is;k_is;k_is;k_is))
  (case m9=>(refine⟨?_,?_,?_,?_⟩<;>k_is))
  (case tE=>(show PySem.W.findIn _ _ _=some none;k_is))
  (case wJ=>(show PySem.W.findIn _ _ _=some none;k_is))
  (case wX=>(show PySem.W.findIn _ _ _=some none;k_is))
  (case J1=>(apply R.rW;k_is;k_is;k_is;k_is;k_is;k_is;k_is))
  (case cW=>(refine⟨?_,?_,?_,?_⟩<;>k_is))
  (case wY=>(show PySem.W.findIn _ _ _=some none;k_is))
  (case iJ=>(show PySem.W.findIn _ _ _=some none;k_is))
  (case tG=>(show PySem.W.findIn _ _ _=some none;k_is))
  (case tu=>(show PySem.W.findIn _ _ _=some none;k_is))
  (case qy=>(show PySem.W.findIn _ _ _=some none;k_is))
  (case qu=>(show PySem.W.findIn _ _ _=some none;k_is))
  (case KC=>(apply R.rW;k_is;k_is;k_is;k_is;k_is;k_is;k_is))
  (case iR=>(refine⟨?_,?_,?_,?_⟩<;>k_is))
  (case m7=>(show PySem.W.findIn _ _ _=some none;k_is))
  (case qC=>(show PySem.W.findIn _ _ _=some none;k_is))
  (case M8=>(apply R.rW;k_is;k_is;k_is;k_is;k_is;k_is;k_is))
  (case Ef=>(apply R.Bl;k_is;k_is;k_is;k_is;k_is))
  (case bY=>(refine⟨?_,?_,?_,?_⟩<;>k_is))
  (case dW=>(show PySem.W.findIn _ _ _=some none;k_is))
  (case gj=>(show PySem.W.findIn _ _ _=some none;k_is))
  (case j4=>(show PySem.W.findIn _ _ _=some none;k_is))
  (case J3=>(apply R.rW;k_is;k_is;k_is;k_is;k_is;k_is;k_is))
  (case gk=>(refine⟨?_,?_,?_,?_⟩<;>k_is))
  (case qw=>(show PySem.W.findIn _ _ _=some none;k_is))
  (case lA=>(show PySem.W.findIn _ _ _=some none;k_is))
  (case KH=>(apply R.rW;k_is;k_is;k_is;k_is;k_is;k_is;k_is))
  (case Fw=>(apply R.Bl;k_is;k_is;k_is;k_is;k_is))
  (case DQ=>(apply R.Bl;k_is;k_is;k_is;k_is;k_is))
  (case Eh=>(apply R.Bl;k_is;k_is;k_is;k_is;k_is))
  (case Gf=>(intro H;apply R.aaR;k_is;exact⟨_,_,rfl,rfl,by decide,.cons ⟨_,rfl⟩ (.cons ⟨_,rfl⟩ (.cons ⟨_,rfl⟩ (.cons ⟨_,rfl⟩ (.nil))))⟩))
  (case zf=>(intro H;apply R.aaR;k_is;exact⟨_,_,rfl,rfl,by decide,.cons rfl (.cons rfl (.cons rfl (.cons rfl (.cons rfl (.nil)))))⟩))
 case S=>
  intro K H xs a hO hwi Og hx
  cases hx with
  |cons h1 h2=>
   cases h2
   cases h1 with
   |lst hs ha=>
    have e:=L2.Zj a.1 _ ha
    subst e
    have q:((Codec.inLen 0 30000 a.1&&a.1.all (Codec.inInt (-4294967296) 8589934591))&&true)=true:=hwi
    rw[Bool.and_eq_true,Bool.and_eq_true] at q
    exact⟨_,a.1,rfl,hs,(Codec.inNat_iff.mp q.1.1).2,Og,fun H' p hp=>.lst (L2.au.of hp) (L2.Zi _)⟩
