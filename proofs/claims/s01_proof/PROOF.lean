import PyProof.Rows.All
import Wide.All
import OpenK.AllK
import Wide.FinOn
import PyProof.EqAt
import PyProof.EqKinds
import PyProof.TupleCall
import KE.BitLaws
import Open.SpecLaws
import KE.OsHead
import KE.OsGo
import KE.KLam
import KE.KSortTupG
import KE.KSortKeySt
import PySx03
import PyProof.ListRange
import PyProof.Rows.SetFrom
import PySem.Challenge.RW_formtablesyard_s01_answers
set_option Elab.async false
set_option linter.all false
set_option maxRecDepth 100000
set_option maxHeartbeats 4000000
namespace L2
open PySem PySem.Spec PyProof.Rows
abbrev Key:=Sum Int Str
def HJ:Key→Value→Bool
 | .inl k,v=>Value.isInt k v
 | .inr x,v=>Value.isStrOf x v
def keyH(w:World):Key→Int
 | .inl k=>hashInt k
 | .inr x=>hashStr w x
theorem fB: ∀{k:Key} {v:Value},HJ k v=true→(∃i t,k=Sum.inl i∧v=Value.int i t)∨(∃x t,k=Sum.inr x∧v=Value.str x t)
 | .inl i,v,h=>by
  obtain⟨t,e⟩:=Value.isInt_shape (k:=i) (v:=v) h
  exact .inl ⟨i,t,rfl,e⟩
 | .inr x,v,h=>by
  obtain⟨t,e⟩:=Value.isStrOf_shape (x:=x) (v:=v) h
  exact .inr ⟨x,t,rfl,e⟩
theorem Sy(i:Int)(t:Tok):HJ (.inl i) (.int i t)=true:=by simp[HJ,Value.isInt]
theorem SJ(x:Str)(t:Tok):HJ (.inr x) (.str x t)=true:=by simp[HJ,Value.isStrOf]
theorem Zd(a b:Int):decide ((Sum.inl a:Key)=Sum.inl b)=(a==b):=by
 by_cases e:a=b
 ·subst e;simp
 ·have h: ¬(Sum.inl a:Key)=Sum.inl b:=fun q=>e (Sum.inl.inj q)
  rw[decide_eq_false h]
  exact(beq_eq_false_iff_ne.mpr e).symm
theorem Ze(a b:Str):decide ((Sum.inr a:Key)=Sum.inr b)=decide (a=b):=by
 by_cases e:a=b
 ·subst e;simp
 ·have h: ¬(Sum.inr a:Key)=Sum.inr b:=fun q=>e (Sum.inr.inj q)
  rw[decide_eq_false h,decide_eq_false e]
theorem Zf(a:Int)(b:Str):decide ((Sum.inl a:Key)=Sum.inr b)=false:=decide_eq_false (fun q=>nomatch q)
theorem Zg(a:Str)(b:Int):decide ((Sum.inr a:Key)=Sum.inl b)=false:=decide_eq_false (fun q=>nomatch q)
def gP(prog:Program)(w:World):PySem.KeyKind prog w Key where
 is:=HJ
 hash:=keyH w
 inj:=fun v a b ha hb=>by
  rcases fB ha with⟨i,t,rfl,rfl⟩|⟨x,t,rfl,rfl⟩
  ·rcases fB hb with⟨j,u,rfl,e⟩|⟨y,u,rfl,e⟩
   ·injection e with e1 _;rw[e1]
   ·exact nomatch e
  ·rcases fB hb with⟨j,u,rfl,e⟩|⟨y,u,rfl,e⟩
   ·exact nomatch e
   ·injection e with e1 _;rw[e1]
 byValue:=fun k v h=>by
  rcases fB h with⟨i,t,rfl,rfl⟩|⟨x,t,rfl,rfl⟩<;>rfl
 pyHash:=fun hv h=>by
  rcases fB hv with⟨i,t,rfl,rfl⟩|⟨x,t,rfl,rfl⟩
  ·exact wpAny_pyHash_int h
  ·exact wpAny_pyHash_str h
 eqBool:=fun hu hv h=>by
  rcases fB hu with⟨i,t,rfl,rfl⟩|⟨x,t,rfl,rfl⟩
  ·rcases fB hv with⟨j,u,rfl,rfl⟩|⟨y,u,rfl,rfl⟩
   ·rw[Zd] at h;exact wpAny_eqBool_int h
   ·rw[Zf] at h;exact SeqAt.EqAt.int_str i t y u _ _ _ _ h
  ·rcases fB hv with⟨j,u,rfl,rfl⟩|⟨y,u,rfl,rfl⟩
   ·rw[Zg] at h;exact SeqAt.EqAt.str_int x t j u _ _ _ _ h
   ·rw[Ze] at h;exact wpAny_eqBool_str h
 «strs» :=fun k x t v h=>by
  rcases fB h with⟨i,u,rfl,e⟩|⟨y,u,rfl,e⟩
  ·exact nomatch e
  ·injection e with e1 _
   subst e1
   cases v<;>rfl
theorem Mp(prog:Program)(w:World)(i:Int)(t:Tok):(gP prog w).is (.inl i) (.int i t)=true:=Sy i t
theorem Mq(prog:Program)(w:World)(x:Str)(t:Tok):(gP prog w).is (.inr x) (.str x t)=true:=SJ x t
inductive V where
 |non|bl (b:Bool)|int (i:Int)|str (x:Str)|byt (b:Array UInt8)|flt (b:UInt64)|ref (a:Addr)|ty (n:String)
 deriving DecidableEq
def RelV:V→Value→Prop
 | .non,u=>u=Value.none
 | .bl b,u=>u=Value.bool b
 | .int i,u=>∃t,u=Value.int i t
 | .str x,u=>∃t,u=Value.str x t
 | .byt b,u=>∃t,u=Value.bytes b t
 | .flt b,u=>∃t,u=Value.float b t
 | .ref a,u=>u=Value.ref a
 | .ty n,u=>u=Value.type n
abbrev Vals:List V→List Value→Prop:=Paired RelV
theorem Vals.length{xs:List V}{us:List Value}(r:Vals xs us):xs.length=us.length:=Paired.length r
theorem Vals.get: ∀{xs:List V} {us:List Value} {i:Nat} {x:V},Vals xs us→xs[i]?=some x→∃u,us[i]?=some u∧RelV x u
 |_,_,_,_,.nil,e=>by simp at e
 |_,_,0,_,.cons r _,e=>by simp at e;subst e;exact⟨_,rfl,r⟩
 |_,_,i+1,x,.cons _ t,e=>by
  obtain⟨u,h1,h2⟩:=Vals.get (i:=i) (x:=x) t (by simpa using e)
  exact⟨u,by simpa using h1,h2⟩
theorem Vals.set{x:V}{u:Value}(r:RelV x u): ∀{xs:List V} {us:List Value} (i:Nat),Vals xs us→Vals (xs.set i x) (us.set i u)
 |_,_,_,.nil=> .nil
 |_,_,0,.cons _ t=> .cons r t
 |_,_,i+1,.cons q t=> .cons q (Vals.set r i t)
theorem Vals.append: ∀{xs ys:List V} {us ws:List Value},Vals xs us→Vals ys ws→Vals (xs++ys) (us++ws)
 |_,_,_,_,.nil,s=>s
 |_,_,_,_,.cons r t,s=> .cons r (Vals.append t s)
theorem Vals.take: ∀{xs:List V} {us:List Value} (n:Nat),Vals xs us→Vals (xs.take n) (us.take n)
 |_,_,0,_=> .nil
 |_,_,_+1,.nil=> .nil
 |_,_,n+1,.cons r t=> .cons r (Vals.take n t)
theorem Vals.drop: ∀{xs:List V} {us:List Value} (n:Nat),Vals xs us→Vals (xs.drop n) (us.drop n)
 |_,_,0,r=>r
 |_,_,_+1,.nil=> .nil
 |_,_,n+1,.cons _ t=>Vals.drop n t
def tR:Option V→Option Value→Prop
 |some v,some u=>RelV v u
 |none,none=>True
 |_,_=>False
def KV{κ:Type}:List (κ×V)→List (κ×Value)→Prop:=Paired fun(p:κ×V) (q:κ×Value)=>p.1=q.1∧RelV p.2 q.2
def kV:Key→V
 | .inl i=> .int i
 | .inr x=> .str x
inductive HO where
 |lst (xs:List V)
 |tup (xs:List V)
 |dK (kvs:List (Key×V))|dT (kvs:List (List Key×V))
 |set (S:Int→Bool) (n:Nat)
 |ins (C dx:Addr) (fs:List (Str×V))
 |own (x:Addr)
 |xd (fs:List (Str×V))
 |met (f x:Addr)
 |rng (lo hi:Int)
 |frz (o:Obj) (u:HO)
 |tbl (ps:Array Value)
 |ext (φ:Heap→Prop)
abbrev Hp:=Addr→Option HO
def upd(H:Hp)(a:Addr)(o:HO):Hp:=fun b=>if b=a then some o else H b
theorem aA{H:Hp}{a:Addr}{o:HO}:upd H a o a=some o:=by unfold upd;rw[if_pos rfl]
theorem aJ{H:Hp}{a b:Addr}{o:HO}(h:b≠a):upd H a o b=H b:=by unfold upd;rw[if_neg h]
theorem d8{H:Hp}{a b:Addr}{o u:HO}(h:H a=some o)(h':H b=some u)(d:o≠u):a≠b:=by
 intro e;subst e;rw[h] at h';exact d (Option.some.inj h')
theorem aG{H:Hp}{a b:Addr}{o:HO}(h:H a=some o)(h':H b=none):a≠b:=by
 intro e;subst e;rw[h] at h';cases h'
section
variable(P:Program)(w:World)
def fP(H:Hp)(h:Heap)(a:Addr):HO→Prop
 | .lst xs=>xs.length≤sizeLine∧∃(its:List Value) (n:Nat),Vals xs its∧h.get? a=some {cls:= .type "list",data:= .seq its.toArray n}
 | .tup xs=>xs.length≤sizeLine∧∃its:List Value,Vals xs its∧IsTup h a its.toArray
 | .dK kvs=>kvs.length≤sizeLine∧(a==sysModules)=false∧∃vs,KV kvs vs∧h.DictOf (gP P w) a vs
 | .dT kvs=>kvs.length≤sizeLine∧(a==sysModules)=false∧∃xs:List (List Key×Addr×Value),
   Paired (fun(p:List Key×V) (q:List Key×Addr×Value)=>p.1=q.1∧H q.2.1=some (.tup (p.1.map kV))∧RelV p.2 q.2.2) kvs xs∧
   ∃o es ep,h.get? a=some o∧o.ExactDict∧o.data= .dict es ep∧es.toList=xs.map (entryOfKey (tupleKind (gP P w)))∧(xs.map (·.1)).Nodup
 | .set S n=>h.SetOf (intKind P w) a S n
 | .ins C dx fs=>H dx=some (.own a)∧fs.length≤1000∧dx≠a∧h.get? a=some (PySem.W.instObj C dx)∧
   ∃mA,h.Ns1 dx mA∧(∀f,tR (fs.lookup f) (mA f))∧PySem.Within mA (fs.map (·.1))
 | .own _=>∃o,h.get? a=some o
 | .xd fs=>∃mA,h.Ns1 a mA∧∀f,tR (fs.lookup f) (mA f)
 | .rng lo hi=>∃t u v,h.get? a=some {cls:= .type "range",data:= .fields #[.int lo t,.int hi u,.int 1 v]}
 | .frz o u=>h.get? a=some o∧fP H h a u
 | .tbl ps=>h.get? a=some {cls:= .none,data:= .fields ps}
 | .met f x=>h.get? a=some (PySem.W.methodObj (.ref f) (.ref x))
 | .ext φ=>φ h∧(∃o,h.get? a=some o)∧∀h1 h2:Heap,φ h1→(∀o,h1.get? a=some o→h2.get? a=some o)→φ h2
def HOk(H:Hp)(h:Heap):Prop:=∀a o,H a=some o→fP P w H h a o
end
section
variable{P:Program}{w:World}{H H':Hp}{h h':Heap}{a:Addr}{o:HO}
theorem fP.lt(x:fP P w H h a o):a<h.objs.size:=by
 cases o with
 |lst xs=>obtain⟨_,_,_,_,e⟩:=x;exact Heap.lt_size e
 |tup xs=>obtain⟨_,_,_,p⟩:=x;exact p.lt
 |dK kvs=>obtain⟨_,_,_,_,o,_,_,e,_⟩:=x;exact Heap.lt_size e
 |dT kvs=>obtain⟨_,_,_,_,o,_,_,e,_⟩:=x;exact Heap.lt_size e
 |set S n=>obtain⟨o,_,_,_,e,_⟩:=x;exact Heap.lt_size e
 |ins C dx fs=>obtain⟨_,_,_,e,_⟩:=x;exact Heap.lt_size e
 |own y=>obtain⟨_,e⟩:=x;exact Heap.lt_size e
 |xd fs=>obtain⟨_,⟨_,_,_,e,_⟩,_⟩:=x;exact Heap.lt_size e
 |rng lo hi=>obtain⟨_,_,_,e⟩:=x;exact Heap.lt_size e
 |frz ob u=>obtain⟨e,_⟩:=x;exact Heap.lt_size e
 |tbl ps=>exact Heap.lt_size (show h.get? a=some _ from x)
 |met f y=>exact Heap.lt_size (show h.get? a=some _ from x)
 |ext φ=>obtain⟨_,⟨_,e⟩,_⟩:=x;exact Heap.lt_size e
theorem Paired.Zh{α β:Type}{F G:α→β→Prop}: ∀{l₁:List α} {l₂:List β},Paired F l₁ l₂→(∀a b,F a b→G a b)→Paired G l₁ l₂
 |_,_,.nil,_=> .nil
 |_,_,.cons r t,f=> .cons (f _ _ r) (Paired.Zh t f)
theorem fP.stay(x:fP P w H h a o)(k: ∀b u,(b=a∨H b=some (.own a))→h.get? b=some u→h'.get? b=some u)
  (ho: ∀b,H b=some (.own a)→H' b=some (.own a)) (ht: ∀b xs,H b=some (.tup xs)→H' b=some (.tup xs)):fP P w H' h' a o:=by
 induction o with
 |lst xs=>obtain⟨z,its,n,r,e⟩:=x;exact⟨z,its,n,r,k _ _ (.inl rfl) e⟩
 |tup xs=>obtain⟨z,its,r,ob,e,c⟩:=x;exact⟨z,its,r,ob,k _ _ (.inl rfl) e,c⟩
 |dK kvs=>obtain⟨z,y,vs,r,ob,es,ep,e,c⟩:=x;exact⟨z,y,vs,r,ob,es,ep,k _ _ (.inl rfl) e,c⟩
 |dT kvs=>
  obtain⟨z,y,xs,r,ob,es,ep,e,c⟩:=x
  exact⟨z,y,xs,Paired.Zh r fun p q z=>⟨z.1,ht _ _ z.2.1,z.2.2⟩,ob,es,ep,k _ _ (.inl rfl) e,c⟩
 |set S n=>obtain⟨ob,es,ep,t,e,c⟩:=x;exact⟨ob,es,ep,t,k _ _ (.inl rfl) e,c⟩
 |ins C dx fs=>
  obtain⟨d,z,ne,e,mA,⟨od,es,ep,e2,c⟩,r⟩:=x
  exact⟨ho _ d,z,ne,k _ _ (.inl rfl) e,mA,⟨od,es,ep,k _ _ (.inr d) e2,c⟩,r⟩
 |own y=>obtain⟨ob,e⟩:=x;exact⟨ob,k _ _ (.inl rfl) e⟩
 |xd fs=>obtain⟨mA,⟨od,es,ep,e,c⟩,r⟩:=x;exact⟨mA,⟨od,es,ep,k _ _ (.inl rfl) e,c⟩,r⟩
 |rng lo hi=>obtain⟨t,u,v,e⟩:=x;exact⟨t,u,v,k _ _ (.inl rfl) e⟩
 |frz ob u ih=>obtain⟨e,q⟩:=x;exact⟨k _ _ (.inl rfl) e,ih q⟩
 |tbl ps=>
  have e:h.get? a=some {cls:= .none,data:= .fields ps}:=x
  show h'.get? a=some {cls:= .none,data:= .fields ps}
  exact k a _ (.inl rfl) e
 |met f y=>
  have e:h.get? a=some (PySem.W.methodObj (.ref f) (.ref y)):=x
  show h'.get? a=some (PySem.W.methodObj (.ref f) (.ref y))
  exact k a _ (.inl rfl) e
 |ext φ=>obtain⟨p,⟨o,e⟩,st⟩:=x;exact⟨st _ _ p fun o q=>k _ _ (.inl rfl) q,⟨o,k _ _ (.inl rfl) e⟩,st⟩
theorem HOk.lt(x:HOk P w H h)(e:H a=some o):a<h.objs.size:=(x a o e).lt
theorem HOk.fresh(x:HOk P w H h)(e:h.objs.size≤a):H a=none:=by
 cases q:H a with
 |none=>rfl
 |some u=>exact absurd (Nat.lt_of_lt_of_le (x.lt q) e) (Nat.lt_irrefl _)
theorem HOk.kept(x:HOk P w H h)(k: ∀b u,h.get? b=some u→h'.get? b=some u):HOk P w H h':=fun a o e=>
 (x a o e).stay (fun b u _ q=>k b u q) (fun _ q=>q) fun _ _ q=>q
theorem HOk.laid(x:HOk P w H h)(k: ∀b u,h.get? b=some u→h'.get? b=some u)(hp:h.objs.size≤a)(new:fP P w (upd H a o) h' a o):HOk P w (upd H a o) h':=fun b u e=>by
 have hn:=x.fresh hp
 by_cases hb:b=a
 ·subst hb;rw[aA] at e;cases e;exact new
 ·rw[aJ hb] at e
  exact(x b u e).stay (fun c v _ q=>k c v q) (fun c q=>by rw[aJ (aG q hn)];exact q) fun c xs q=>by rw[aJ (aG q hn)];exact q
end
def Rd(H:Hp)(a:Addr)(u:HO):Prop:=H a=some u∨∃o,H a=some (.frz o u)
theorem Rd.ok{P:Program}{w:World}{H:Hp}{h:Heap}{a:Addr}{u:HO}(r:Rd H a u)(x:HOk P w H h):fP P w H h a u:=by
 rcases r with r|⟨o,r⟩
 ·exact x a u r
 ·obtain⟨_,q⟩:=x a _ r
  exact q
def Mut:Option HO→Prop
 |some (.lst _)=>True
 |some (.dK _)=>True
 |some (.dT _)=>True
 |some (.set _ _)=>True
 |some (.ins _ _ _)=>True
 |some (.ext _)=>True
 |_=>False
section
variable{P:Program}{w:World}{H:Hp}{h h':Heap}{x e:Addr}{o':HO}
theorem HOk.write(ok:HOk P w H h)(mu:Mut (H x))(he:e=x∨H e=some (.own x))(k: ∀b u,b≠e→h.get? b=some u→h'.get? b=some u)(heo: ∃u,h'.get? e=some u)
  (new:fP P w (upd H x o') h' x o'):HOk P w (upd H x o') h':=fun b u q=>by
 have nown: ∀c y,H c=some (.own y)→c≠x:=fun c y r z=>by subst z;rw[r] at mu;exact mu
 have ntup: ∀c xs,H c=some (.tup xs)→c≠x:=fun c xs r z=>by subst z;rw[r] at mu;exact mu
 by_cases hb:b=x
 ·subst hb;rw[aA] at q;cases q;exact new
 ·rw[aJ hb] at q
  by_cases hbe:b=e
  ·have q':H b=some (.own x):=by
    rcases he with z|z
    ·exact absurd (hbe.trans z) hb
    ·rw[hbe];exact z
   rw[q] at q';cases q'
   obtain⟨v,hv⟩:=heo
   exact⟨v,by rw[hbe];exact hv⟩
  ·refine(ok b u q).stay (fun c v hc r=>k c v ?_ r) (fun c r=>by rw[aJ (nown c b r)];exact r) fun c xs r=>by rw[aJ (ntup c xs r)];exact r
   rcases hc with rfl|hc
   ·exact hbe
   ·rintro rfl
    rcases he with z|z
    ·exact nown c b hc z
    ·rw[hc] at z;cases z;exact hb rfl
end
structure Un(fs ex:List Addr)(H H':Hp)(h h':Heap):Prop where
 keep: ∀b o,h.get? b=some o→H b=none→b∉fs→b∉ex→h'.get? b=some o
 slot: ∀b o,h.get? b=some o→H b=none→b∈fs→b∉ex→∃sl,h'.get? b=some {o with slots:=sl}
 free: ∀b o,h.get? b=some o→H b=none→b∉ex→H' b=none
 there: ∀b o,h.get? b=some o→b∉ex→∃o',h'.get? b=some o'
 tups: ∀b xs,H b=some (.tup xs)→H' b=some (.tup xs)
 Js: ∀b o u,H b=some (.frz o u)→H' b=some (.frz o u)
 Jt: ∀b ps,H b=some (.tbl ps)→∃more,H' b=some (.tbl (ps++more))
section
variable{fs fs' ex ex':List Addr}{H H1 H2:Hp}{h h1 h2 h':Heap}{a x e:Addr}{o:HO}
theorem Un.any(u:Un fs ex H H1 h h1){b:Addr}{ob:Obj}(q:h.get? b=some ob)(n:H b=none)(hx:b∉ex): ∃sl,h1.get? b=some {ob with slots:=sl}:=by
 by_cases hb:b∈fs
 ·exact u.slot b ob q n hb hx
 ·exact⟨ob.slots,u.keep b ob q n hb hx⟩
theorem Un.kept(k: ∀b u,h.get? b=some u→h'.get? b=some u):Un fs ex H H h h':=
 ⟨fun b ob q _ _ _=>k b ob q,fun b ob q _ _ _=>⟨ob.slots,k b ob q⟩,fun _ _ _ n _=>n,fun b ob q _=>⟨ob,k b ob q⟩,fun _ _ q=>q,fun _ _ _ q=>q,fun _ ps q=>⟨#[],by rw[q];simp⟩⟩
theorem Un.refl:Un fs ex H H h h:=Un.kept fun _ _ q=>q
theorem Un.laid(k: ∀b u,h.get? b=some u→h'.get? b=some u)(hp:h.objs.size≤a)(hn:H a=none):Un fs ex H (upd H a o) h h' where
 keep:=fun b u q _ _ _=>k b u q
 slot:=fun b u q _ _ _=>⟨u.slots,k b u q⟩
 free:=fun b u q n _=>by rw[aJ (Nat.ne_of_lt (Nat.lt_of_lt_of_le (Heap.lt_size q) hp))];exact n
 there:=fun b u q _=>⟨u,k b u q⟩
 tups:=fun b xs q=>by rw[aJ (aG q hn)];exact q
 Js:=fun b u xs q=>by rw[aJ (aG q hn)];exact q
 Jt:=fun b ps q=>⟨#[],by rw[aJ (aG q hn),q];simp⟩
theorem Un.write(mu:Mut (H x))(he:e=x∨H e=some (.own x))(k: ∀b u,b≠e→h.get? b=some u→h'.get? b=some u)(heo: ∃u,h'.get? e=some u):Un fs ex H (upd H x o) h h':=by
 have hx: ∀b,H b=none→b≠x:=fun b n z=>by subst z;rw[n] at mu;exact mu
 have hb: ∀b,H b=none→b≠e:=fun b n z=>by
  subst z
  rcases he with r|r
  ·exact hx b n r
  ·rw[n] at r;cases r
 have hm: ∀b u,H b=some u→¬Mut (some u)→b≠x:=fun b u q nm z=>by subst z;rw[q] at mu;exact nm mu
 refine⟨fun b u q n _ _=>k b u (hb b n) q,fun b u q n _ _=>⟨u.slots,k b u (hb b n) q⟩,fun b u q n _=>by rw[aJ (hx b n)];exact n,fun b u q _=>?_,
  fun b xs q=>by rw[aJ (hm b _ q fun z=>z)];exact q,fun b u xs q=>by rw[aJ (hm b _ q fun z=>z)];exact q,fun b ps q=>⟨#[],by rw[aJ (hm b _ q fun z=>z),q];simp⟩⟩
 by_cases hbe:b=e
 ·subst hbe;exact heo
 ·exact⟨u,k b u hbe q⟩
end
def trk(h:Heap)(H:Hp):List Addr:=(List.range h.objs.size).filter fun a=>(H a).isSome
def Dg(h:Heap)(H:Hp):Heap:=PySem.W.hideAll h (trk h H)
theorem SM(h:Heap)(H:Hp):(Dg h H).objs.size=h.objs.size:=PySem.W.hideAll_size _ _
theorem U8{h:Heap}{H:Hp}{b:Addr}{o:Obj}(e:h.get? b=some o)(n:H b=none):(Dg h H).get? b=some o:=
 PySem.W.hideAll_get _ e fun hm=>by
  have q:(H b).isSome=true:=(List.mem_filter.mp hm).2
  rw[n] at q;simp at q
theorem Xh{h:Heap}{H:Hp}{b:Addr}{o:Obj}(e:(Dg h H).get? b=some o):h.get? b=some o∧H b=none:=by
 have e':h.get? b=some o:=PySem.W.of_hideAll (trk h H) e
 refine⟨e',?_⟩
 cases q:H b with
 |none=>rfl
 |some x=>
  have hm:b∈trk h H:=List.mem_filter.mpr ⟨List.mem_range.mpr (Heap.lt_size e'),by simp[q]⟩
  have z:(Dg h H).get? b=none:=PySem.W.hideAll_none (trk h H) hm
  rw[z] at e;cases e
structure Mod(K:PySem.W.Frag)(mg:Str→Option Value)(base:Heap):Prop where
 kin:K.In base
 glob:base.Ns mainGlobals mg
 blt: ∃mb,base.Ns builtinsNs mb∧∀x:Str,x≠"__name__"→mb x=bootBuiltins x
 nolimit:base.NoLimit
structure Cx where
 prog:Program
 w:World
 K:PySem.W.Frag
 mg:Str→Option Value
 base:Heap
 A:Around
 N:List Str
 s_0:Shared
 H_0:Hp
 env:Env
 outer:List Env
 stack:List Env
 ex:List Addr
 fn:Str→Bool
 calm:Bool
 pn:List (Addr×Obj)
 xe:Value→Shared→Prop
def frs(l:List Env):List Addr:=l.filterMap (·.frame)
abbrev Cx.fs(X:Cx):List Addr:=frs X.outer
def Vis(sc:Scope)(x:Str):Prop:=sc.names.lookup x=some .local∨sc.names.lookup x=some .cell∨sc.names.lookup x=some .free
def Loc(sc:Scope)(x:Str):Prop:=sc.names.lookup x=some .local∨sc.names.lookup x=some .cell
def Look(env:Env)(h:Heap)(m:Str→Option Value)(x:Str)(u:Value):Prop:=
 (env.kindOf x=some .local∧m x=some u)∨((env.kindOf x=some .cell∨env.kindOf x=some .free)∧∃c,env.cells.lookup x=some c∧h.IsCell c (some u))
structure Cx.Ok(X:Cx):Prop where
 mod:Mod X.K X.mg X.base
 kind:X.env.scope.kind= .function
 glob:X.env.globals=mainGlobals
 blt:X.env.builtins=builtinsNs
 above:X.s_0.heap.objs.size≤X.env.locals
 inj: ∀x y c,X.env.cells.lookup x=some c→X.env.cells.lookup y=some c→x=y
 has: ∀x,(X.env.kindOf x=some .cell∨X.env.kindOf x=some .free)→∃c,X.env.cells.lookup x=some c
 cab: ∀x c,X.fn x=true→X.env.cells.lookup x=some c→X.s_0.heap.objs.size≤c
 hd:X.calm=true→X.A.handled=none
 frames:X.A.frames=some X.stack
 stk:X.stack=X.outer∨(X.stack=X.env::X.outer∧X.env.frame=some X.env.locals)
 exf: ∀b∈X.ex,b≠X.env.locals∧∀x c,X.env.cells.lookup x=some c→c≠b
 bs: ∀b o,X.base.get? b=some o→X.s_0.heap.get? b=some o∧X.H_0 b=none
 bsz:X.base.objs.size≤X.s_0.heap.objs.size
 U9: ∀b o,X.base.get? b=some o→b∉X.ex
 Va: ∀b∈X.ex,b∉X.fs
 BP:X.s_0.heap.FunFrames X.base X.outer
 frf: ∀b∈X.fs,X.H_0 b=none
structure Inv(X:Cx)(pins:List (Addr×Obj))(σ:List (Option V))(H:Hp)(s:Shared):Prop where
 ok:X.Ok
 os:s.os=X.s_0.os
 bare:AllBare s.gens
 base:Un X.fs X.ex X.H_0 H X.s_0.heap s.heap
 loc: ∃m,s.heap.Ns X.env.locals m∧∀(i:Nat) (x:Str) (v:V),X.N[i]?=some x→σ[i]?=some (some v)→Vis X.env.scope x→∃u,RelV v u∧Look X.env s.heap m x u
 cell: ∀x c,X.env.cells.lookup x=some c→∃v,s.heap.IsCell c v
 free:H X.env.locals=none
 sW: ∀x c,X.env.cells.lookup x=some c→H c=none
 pin: ∀p∈X.pn++pins,s.heap.get? p.1=some p.2∧H p.1=none∧p.1≠X.env.locals∧p.1∉X.fs∧∀v,p.2.data≠ .cell v
 hok:HOk X.prog X.w H s.heap
 len:σ.length=X.N.length
section
variable{X:Cx}{pins:List (Addr×Obj)}{σ:List (Option V)}{H H':Hp}{s:Shared}{h':Heap}
theorem Cx.Ok.nofr(ok:X.Ok){b:Addr}{o:Obj}(e:X.base.get? b=some o):b∉X.fs:=fun hb=>by
 have:=(ok.BP.mem hb).1
 rw[e] at this;cases this
theorem Inv.bs(I:Inv X pins σ H s): ∀b o,X.base.get? b=some o→s.heap.get? b=some o∧H b=none:=fun b o e=>
 ⟨I.base.keep b o (I.ok.bs b o e).1 (I.ok.bs b o e).2 (I.ok.nofr e) (I.ok.U9 b o e),I.base.free b o (I.ok.bs b o e).1 (I.ok.bs b o e).2 (I.ok.U9 b o e)⟩
theorem Inv.bk(I:Inv X pins σ H s): ∀b o,X.base.get? b=some o→s.heap.get? b=some o:=fun b o e=>(I.bs b o e).1
theorem Inv.mod(I:Inv X pins σ H s):Mod X.K X.mg X.base:=I.ok.mod
theorem Inv.kIn(I:Inv X pins σ H s):X.K.In s.heap:=I.ok.mod.kin.keeps I.bk
theorem Inv.nolimit(I:Inv X pins σ H s):s.heap.NoLimit:=I.ok.mod.nolimit.keeps I.bk
theorem Inv.lt(I:Inv X pins σ H s):X.env.locals<s.heap.objs.size:=let ⟨_,hn,_⟩:=I.loc;hn.lt
theorem Inv.sz(I:Inv X pins σ H s):X.s_0.heap.objs.size≤s.heap.objs.size:=Nat.le_trans I.ok.above (Nat.le_of_lt I.lt)
theorem Inv.nofs(I:Inv X pins σ H s){a:Addr}(h:s.heap.objs.size≤a):a∉X.fs:=fun hb=>by
 obtain⟨_,o,ho,_⟩:=I.ok.BP.mem hb
 exact absurd (Nat.lt_of_lt_of_le (Heap.lt_size ho) (Nat.le_trans I.sz h)) (Nat.lt_irrefl _)
theorem Inv.cne(I:Inv X pins σ H s): ∀x c,X.env.cells.lookup x=some c→c≠X.env.locals:=fun x c e z=>by
 obtain⟨v,o,ho,hd⟩:=I.cell x c e
 obtain⟨m,⟨o',es,ep,ho',hd',_⟩,_⟩:=I.loc
 rw[z,ho'] at ho;cases ho;rw[hd'] at hd;cases hd
theorem Inv.BP(I:Inv X pins σ H s):s.heap.FunFrames X.base X.outer:=by
 have all: ∀(l:List Env),(∀b∈frs l,b∈X.fs)→X.s_0.heap.FunFrames X.base l→s.heap.FunFrames X.base l:=by
  intro l
  induction l with
  |nil=>intro _ _;trivial
  |cons env r ih=>
   intro hs hl
   obtain⟨hk,⟨L,o,hf,hn,ho,hd⟩,hr⟩:=hl
   have hL:L∈X.fs:=hs L (by unfold frs;rw[List.filterMap_cons,hf];exact List.mem_cons_self)
   obtain⟨sl,e⟩:=I.base.slot L o ho (I.ok.frf L hL) hL fun z=>I.ok.Va L z hL
   exact⟨hk,⟨L,_,hf,hn,e,hd⟩,ih (fun b hb=>hs b (by unfold frs;rw[List.filterMap_cons,hf];exact List.mem_cons_of_mem _ hb)) hr⟩
 exact all X.outer (fun _ hb=>hb) I.ok.BP
theorem Inv.stack(I:Inv X pins σ H s):s.heap.FunFrames X.base X.stack:=by
 rcases I.ok.stk with e|⟨e,hf⟩
 ·rw[e];exact I.BP
 ·rw[e]
  obtain⟨m,hn,_⟩:=I.loc
  refine .cons (by rw[I.ok.kind];decide) hf hn ?_ I.BP
  exact Heap.get?_none_of_le (Nat.le_trans I.ok.bsz I.ok.above)
theorem Inv.Pr(I:Inv X pins σ H s): ∀b∈frs X.stack,b∈X.env.locals::X.fs:=fun b hb=>by
 rcases I.ok.stk with e|⟨e,hf⟩
 ·rw[e] at hb;exact List.mem_cons_of_mem _ hb
 ·rw[e] at hb
  unfold frs at hb
  rw[List.filterMap_cons,hf] at hb
  exact hb
theorem Inv.Ju(I:Inv X pins σ H s): ∀b∈frs X.stack,H b=none:=fun b hb=>by
 rcases List.mem_cons.mp (I.Pr b hb) with e|hb
 ·rw[e];exact I.free
 ·obtain⟨_,o,ho,_⟩:=I.ok.BP.mem hb
  exact I.base.free b o ho (I.ok.frf b hb) fun z=>I.ok.Va b z hb
theorem Inv.step{g':Array GenState}{t':Nat}{d':Drawn}{ch:List Addr}(I:Inv X pins σ H s)
  (hch: ∀b∈ch,(b∈X.ex∨X.s_0.heap.objs.size≤b)∧b≠X.env.locals∧(∀x c,X.env.cells.lookup x=some c→c≠b)∧∀p∈X.pn++pins,p.1≠b)
  (keep: ∀b o,b≠X.env.locals→b∉X.fs→b∉ch→s.heap.get? b=some o→H b=none→h'.get? b=some o)
  (slot: ∀b o,b≠X.env.locals→b∈X.fs→b∉ch→s.heap.get? b=some o→H b=none→∃sl,h'.get? b=some {o with slots:=sl}) (free: ∀b o,b∉ch→s.heap.get? b=some o→H b=none→H' b=none)
  (there: ∀b o,b∉ch→s.heap.get? b=some o→∃o',h'.get? b=some o')
  (tups: ∀b xs,H b=some (.tup xs)→H' b=some (.tup xs)) (Js: ∀b o u,H b=some (.frz o u)→H' b=some (.frz o u)) (Jt: ∀b ps,H b=some (.tbl ps)→∃more,H' b=some (.tbl (ps++more)))
  (ns: ∀m,s.heap.Ns X.env.locals m→h'.Ns X.env.locals m) (hok:HOk X.prog X.w H' h') (hg:AllBare g'):
  Inv X pins σ H' {s with heap:=h',gens:=g',drawn:=d',toks:=t'}:=by
 have neL: ∀b o,X.s_0.heap.get? b=some o→b≠X.env.locals:=fun b o e=>Nat.ne_of_lt (Nat.lt_of_lt_of_le (Heap.lt_size e) I.ok.above)
 have neC: ∀b o,X.s_0.heap.get? b=some o→b∉X.ex→b∉ch:=fun b o e hx hb=>by
  rcases(hch b hb).1 with z|z
  ·exact hx z
  ·exact absurd (Nat.lt_of_lt_of_le (Heap.lt_size e) z) (Nat.lt_irrefl _)
 have cellK: ∀x c,X.env.cells.lookup x=some c→∀v,s.heap.IsCell c v→h'.IsCell c v:=fun x c e v ⟨o,ho,hd⟩=>by
  have nch:c∉ch:=fun z=>(hch c z).2.2.1 x c e rfl
  by_cases hc:c∈X.fs
  ·obtain⟨sl,q⟩:=slot c o (I.cne x c e) hc nch ho (I.sW x c e)
   exact⟨_,q,hd⟩
  ·exact⟨o,keep c o (I.cne x c e) hc nch ho (I.sW x c e),hd⟩
 refine⟨I.ok,I.os,hg,⟨fun b o e n hb hx=>?_,fun b o e n hb hx=>?_,fun b o e n hx=>?_,fun b o e hx=>?_,fun b xs e=>tups b xs (I.base.tups b xs e),fun b o xs e=>Js b o xs (I.base.Js b o xs e),fun b ps e=>?_⟩,?_,fun x c e=>?_,?_,fun x c e=>?_,fun p hp=>?_,hok,I.len⟩
 ·exact keep b o (neL b o e) hb (neC b o e hx) (I.base.keep b o e n hb hx) (I.base.free b o e n hx)
 ·obtain⟨sl,e1⟩:=I.base.slot b o e n hb hx
  obtain⟨sl',e2⟩:=slot b _ (neL b o e) hb (neC b o e hx) e1 (I.base.free b o e n hx)
  exact⟨sl',e2⟩
 ·obtain⟨o',e1⟩:=I.base.there b o e hx
  exact free b o' (neC b o e hx) e1 (I.base.free b o e n hx)
 ·obtain⟨o',e1⟩:=I.base.there b o e hx
  exact there b o' (neC b o e hx) e1
 ·obtain⟨m1,e1⟩:=I.base.Jt b ps e
  obtain⟨m2,e2⟩:=Jt b _ e1
  exact⟨m1++m2,by rw[e2,Array.append_assoc]⟩
 ·obtain⟨m,hn,hl⟩:=I.loc
  refine⟨m,ns m hn,fun i x v e1 e2 e3=>?_⟩
  obtain⟨u,r,l⟩:=hl i x v e1 e2 e3
  refine⟨u,r,?_⟩
  rcases l with l|⟨k,c,e,z⟩
  ·exact .inl l
  ·exact .inr ⟨k,c,e,cellK x c e _ z⟩
 ·obtain⟨v,z⟩:=I.cell x c e
  exact⟨v,cellK x c e v z⟩
 ·obtain⟨m,⟨o,_,_,ho,_⟩,_⟩:=I.loc
  exact free _ o (fun z=>(hch _ z).2.1 rfl) ho I.free
 ·obtain⟨v,o,ho,hd⟩:=I.cell x c e
  exact free c o (fun z=>(hch c z).2.2.1 x c e rfl) ho (I.sW x c e)
 ·obtain⟨e,n,ne,nf,d⟩:=I.pin p hp
  have nch:p.1∉ch:=fun z=>(hch p.1 z).2.2.2 p hp rfl
  exact⟨keep p.1 p.2 ne nf nch e n,free p.1 p.2 nch e n,ne,nf,d⟩
theorem Inv.un{t':Nat}(I:Inv X pins σ H s)(u:Un X.fs [] H H' s.heap h')(hok:HOk X.prog X.w H' h'):Inv X pins σ H' {s with heap:=h',toks:=t'}:=by
 obtain⟨m,⟨o,es,ep,ho,r⟩,_⟩:=id I.loc
 obtain⟨sl,hL⟩:=u.any ho I.free (by simp)
 exact I.step (g':=s.gens) (d':=s.drawn) (ch:=[]) (fun _ z=>nomatch z) (fun b o _ hb _ e n=>u.keep b o e n hb (by simp)) (fun b o _ hb _ e n=>u.slot b o e n hb (by simp)) (fun b o _ e n=>u.free b o e n (by simp)) (fun b o _ e=>u.there b o e (by simp)) u.tups u.Js u.Jt (fun m' hm=>by
  obtain⟨o',es',ep',ho',r'⟩:=hm
  rw[ho] at ho';cases ho'
  exact⟨_,es',ep',hL,r'⟩) hok I.bare
theorem Inv.call{g':Array GenState}{t':Nat}{d':Drawn}{ch:List Addr}(I:Inv X pins σ H s)(u:Un (frs X.stack) ch H H' s.heap h')(hok:HOk X.prog X.w H' h')(hg:AllBare g')
  (hch: ∀b∈ch,(b∈X.ex∨X.s_0.heap.objs.size≤b)∧b≠X.env.locals∧(∀x c,X.env.cells.lookup x=some c→c≠b)∧∀p∈X.pn++pins,p.1≠b):
  Inv X pins σ H' {s with heap:=h',gens:=g',drawn:=d',toks:=t'}:=by
 obtain⟨m,⟨o,es,ep,ho,r⟩,_⟩:=id I.loc
 obtain⟨sl,hL⟩:=u.any ho I.free fun z=>(hch _ z).2.1 rfl
 exact I.step (ch:=ch) hch (fun b o hL hb hc e n=>u.keep b o e n (fun z=>(List.mem_cons.mp (I.Pr b z)).elim hL hb) hc) (fun b o _ _ hc e n=>u.any e n hc) (fun b o hc e n=>u.free b o e n hc) (fun b o hc e=>u.there b o e hc) u.tups u.Js u.Jt (fun m' hm=>by
  obtain⟨o',es',ep',ho',r'⟩:=hm
  rw[ho] at ho';cases ho'
  exact⟨_,es',ep',hL,r'⟩) hok hg
theorem Inv.turned{t':Nat}{it:Addr}(I:Inv X pins σ H s)(k: ∀b o,b≠it→s.heap.get? b=some o→h'.get? b=some o)(hn:H it=none)(hL:it≠X.env.locals)
  (h1:it∈X.ex∨X.s_0.heap.objs.size≤it) (h2: ∀x c,X.env.cells.lookup x=some c→c≠it) (h3: ∀p∈X.pn++pins,p.1≠it):Inv X pins σ H {s with heap:=h',toks:=t'}:=by
 have nit: ∀b u,H b=some u→b≠it:=fun b u e z=>by rw[z,hn] at e;cases e
 refine I.step (g':=s.gens) (d':=s.drawn) (ch:=[it]) (fun b hb=>?_) (fun b o _ _ hc e _=>k b o (fun z=>hc (by simp[z])) e) (fun b o _ _ hc e _=>⟨o.slots,k b o (fun z=>hc (by simp[z])) e⟩) (fun _ _ _ _ n=>n)
  (fun b o hc e=>⟨o,k b o (fun z=>hc (by simp[z])) e⟩) (fun _ _ e=>e) (fun _ _ _ e=>e) (fun b ps e=>⟨#[],by rw[e];simp⟩) (fun m hm=>?_) (fun b u e=>?_) I.bare
 ·have e:b=it:=by simpa using hb
  subst e
  exact⟨h1,hL,h2,h3⟩
 ·obtain⟨o,es,ep,ho,r⟩:=hm
  exact⟨o,es,ep,k _ o (Ne.symm hL) ho,r⟩
 ·refine(I.hok b u e).stay (fun c v hc q=>k c v ?_ q) (fun _ q=>q) fun _ _ q=>q
  rcases hc with z|z
  ·rw[z];exact nit b u e
  ·exact nit c _ z
theorem Inv.tok(I:Inv X pins σ H s)(t:Nat):Inv X pins σ H {s with toks:=t}:=I.un (h':=s.heap) (t':=t) Un.refl I.hok
theorem Inv.kept{t':Nat}(I:Inv X pins σ H s)(k: ∀b u,s.heap.get? b=some u→h'.get? b=some u):Inv X pins σ H {s with heap:=h',toks:=t'}:=I.un (Un.kept k) (I.hok.kept k)
theorem Inv.laid{a:Addr}{o:HO}{t':Nat}(I:Inv X pins σ H s)(k: ∀b u,s.heap.get? b=some u→h'.get? b=some u)(hp:s.heap.objs.size≤a)(new:fP X.prog X.w (upd H a o) h' a o):
  Inv X pins σ (upd H a o) {s with heap:=h',toks:=t'}:=I.un (Un.laid k hp (I.hok.fresh hp)) (I.hok.laid k hp new)
theorem Inv.write{x e:Addr}{o:HO}{t':Nat}(I:Inv X pins σ H s)(mu:Mut (H x))(he:e=x∨H e=some (.own x))(k: ∀b u,b≠e→s.heap.get? b=some u→h'.get? b=some u)(heo: ∃u,h'.get? e=some u)
  (new:fP X.prog X.w (upd H x o) h' x o):Inv X pins σ (upd H x o) {s with heap:=h',toks:=t'}:=I.un (Un.write mu he k heo) (I.hok.write mu he k heo new)
theorem Inv.weak{σ':List (Option V)}(I:Inv X pins σ H s)(hl:σ'.length=σ.length)(w: ∀(i:Nat) v,σ'[i]?=some (some v)→σ[i]?=some (some v)):Inv X pins σ' H s:=
 ⟨I.ok,I.os,I.bare,I.base,let ⟨m,hn,hl'⟩:=I.loc;⟨m,hn,fun i x v e1 e2 e3=>hl' i x v e1 (w i v e2) e3⟩,I.cell,I.free,I.sW,I.pin,I.hok,hl.trans I.len⟩
theorem Inv.qK{tU:List (Addr×Obj)}(I:Inv X pins σ H s)(h: ∀p∈tU,s.heap.get? p.1=some p.2∧H p.1=none∧p.1≠X.env.locals∧p.1∉X.fs∧∀v,p.2.data≠ .cell v):Inv X tU σ H s:=
 ⟨I.ok,I.os,I.bare,I.base,I.loc,I.cell,I.free,I.sW,fun p hp=>(List.mem_append.mp hp).elim (fun z=>I.pin p (List.mem_append_left _ z)) (h p),I.hok,I.len⟩
theorem Dh{N:List Str}(hN:N.Nodup){i j:Nat}{x:Str}(a:N[i]?=some x)(b:N[j]?=some x):i=j:=by
 obtain⟨h1,e1⟩:=List.getElem?_eq_some_iff.mp a
 obtain⟨h2,e2⟩:=List.getElem?_eq_some_iff.mp b
 exact(List.getElem_inj hN).mp (e1.trans e2.symm)
theorem HN{M:Model}{A:Around}{E:Value→Shared→Prop}{i:Nat}{x:Str}{v:V}{u:Value}{Q:Unit→Shared→Prop}(I:Inv X pins σ H s)(hN:X.N.Nodup)(hi:X.N[i]?=some x)(hx:Loc X.env.scope x)(r:RelV v u)
  (h: ∀s',Inv X pins (σ.set i (some v)) H s'→(∃a,Heap.SameBut a s.heap s'.heap∧(a=X.env.locals∨X.env.cells.lookup x=some a))→Q () s') (hf:X.fn x=true∨X.env.scope.names.lookup x=some .local:=by first|exact .inl rfl|exact .inr rfl|assumption):wpAny M A (storeName X.env x u) Q E s:=by
 obtain⟨m,hn,hl⟩:=id I.loc
 have hcls:(X.env.scope.kind== .class||(X.env.scope.kind== .module&&X.env.locals != X.env.globals))=false:=by rw[I.ok.kind];rfl
 have hiσ:i<σ.length:=by rw[I.len];exact(List.getElem?_eq_some_iff.mp hi).1
 have cne:=I.cne
 have tracked: ∀{a:Addr} {h':Heap},(∃o,s.heap.get? a=some o∧H a=none)→Heap.SameBut a s.heap h'→HOk X.prog X.w H h':=fun{a h'} ha hs b ob e=>by
  obtain⟨_,_,hfree⟩:=ha
  refine(I.hok b ob e).stay (fun c w' hc q=>(hs.2 c ?_).trans q) (fun _ q=>q) fun _ _ q=>q
  rintro rfl
  rcases hc with rfl|hc
  ·rw[hfree] at e;cases e
  ·rw[hfree] at hc;cases hc
 rcases hx with hk|hk
 ·refine wpAny_storeName_local hk hn (fun h' hn' hs=>?_) hcls
  obtain⟨oL,_,_,hoL,_⟩:=id hn
  refine h _ ⟨I.ok,I.os,I.bare,⟨fun b o e n hb hx=>?_,fun b o e n hb hx=>?_,I.base.free,fun b o e hx=>?_,I.base.tups,I.base.Js,I.base.Jt⟩,⟨_,hn',fun j y v' e1 e2 e3=>?_⟩,fun y c e=>?_,I.free,I.sW,fun p hp=>?_,tracked ⟨oL,hoL,I.free⟩ hs,by simpa using I.len⟩ ⟨_,hs,.inl rfl⟩
  ·exact(hs.2 b (Nat.ne_of_lt (Nat.lt_of_lt_of_le (Heap.lt_size e) I.ok.above))).trans (I.base.keep b o e n hb hx)
  ·obtain⟨sl,e1⟩:=I.base.slot b o e n hb hx
   exact⟨sl,(hs.2 b (Nat.ne_of_lt (Nat.lt_of_lt_of_le (Heap.lt_size e) I.ok.above))).trans e1⟩
  ·obtain⟨o',e1⟩:=I.base.there b o e hx
   exact⟨o',(hs.2 b (Nat.ne_of_lt (Nat.lt_of_lt_of_le (Heap.lt_size e) I.ok.above))).trans e1⟩
  ·by_cases hj:j=i
   ·subst hj
    rw[hi] at e1;cases e1
    rw[List.getElem?_set_self hiσ] at e2
    cases e2
    exact⟨u,r,.inl ⟨hk,by simp⟩⟩
   ·rw[List.getElem?_set_ne (Ne.symm hj)] at e2
    obtain⟨u',r',q⟩:=hl j y v' e1 e2 e3
    refine⟨u',r',?_⟩
    rcases q with⟨k,e⟩|⟨k,c,e,z⟩
    ·refine .inl ⟨k,?_⟩
     have:y≠x:=fun e=>hj (Dh hN e1 (e ▸ hi))
     simp[this,e]
    ·exact .inr ⟨k,c,e,z.sameBut hs (cne y c e)⟩
  ·obtain⟨w',z⟩:=I.cell y c e
   exact⟨w',z.sameBut hs (cne y c e)⟩
  ·obtain⟨e,n,ne,nf,d⟩:=I.pin p hp
   exact⟨(hs.2 p.1 ne).trans e,n,ne,nf,d⟩
 ·have hfn:X.fn x=true:=by
   rcases hf with z|z
   ·exact z
   ·rw[z] at hk;cases hk
  obtain⟨c,hc⟩:=I.ok.has x (.inl hk)
  obtain⟨w',z⟩:=I.cell x c hc
  refine wpAny_storeName_cell I.ok.kind hk hc z (fun h' hc' hs=>?_)
  obtain⟨oc,hoc,hocd⟩:=id z
  refine h {s with heap:=h'} ⟨I.ok,I.os,I.bare,⟨fun b o e n hb hx=>?_,fun b o e n hb hx=>?_,I.base.free,fun b o e hx=>?_,I.base.tups,I.base.Js,I.base.Jt⟩,⟨m,hn.sameBut hs (Ne.symm (cne x c hc)),fun j y v' e1 e2 e3=>?_⟩,fun y c' e=>?_,I.free,I.sW,fun p hp=>?_,tracked ⟨oc,hoc,I.sW x c hc⟩ hs,by simpa using I.len⟩ ⟨c,hs,.inr hc⟩
  ·exact(hs.2 b (Nat.ne_of_lt (Nat.lt_of_lt_of_le (Heap.lt_size e) (I.ok.cab x c hfn hc)))).trans (I.base.keep b o e n hb hx)
  ·obtain⟨sl,e1⟩:=I.base.slot b o e n hb hx
   exact⟨sl,(hs.2 b (Nat.ne_of_lt (Nat.lt_of_lt_of_le (Heap.lt_size e) (I.ok.cab x c hfn hc)))).trans e1⟩
  ·obtain⟨o',e1⟩:=I.base.there b o e hx
   exact⟨o',(hs.2 b (Nat.ne_of_lt (Nat.lt_of_lt_of_le (Heap.lt_size e) (I.ok.cab x c hfn hc)))).trans e1⟩
  ·by_cases hj:j=i
   ·subst hj
    rw[hi] at e1;cases e1
    rw[List.getElem?_set_self hiσ] at e2
    cases e2
    exact⟨u,r,.inr ⟨.inl hk,c,hc,hc'⟩⟩
   ·rw[List.getElem?_set_ne (Ne.symm hj)] at e2
    obtain⟨u',r',q⟩:=hl j y v' e1 e2 e3
    refine⟨u',r',?_⟩
    rcases q with q|⟨k,c',e,z'⟩
    ·exact .inl q
    ·refine .inr ⟨k,c',e,z'.sameBut hs ?_⟩
     rintro rfl
     exact hj (Dh hN e1 (I.ok.inj _ _ _ e hc ▸ hi))
  ·by_cases hcc:c'=c
   ·subst hcc;exact⟨_,hc'⟩
   ·obtain⟨w2,z2⟩:=I.cell y c' e
    exact⟨w2,z2.sameBut hs hcc⟩
  ·obtain⟨e,n,ne,nf,d⟩:=I.pin p hp
   refine⟨(hs.2 p.1 ?_).trans e,n,ne,nf,d⟩
   intro q
   rw[q,hoc] at e
   have q':oc=p.2:=Option.some.inj e
   exact d w' (by rw[←q'];exact hocd)
theorem Di{M:Model}{A:Around}{E:Value→Shared→Prop}{i:Nat}{x:Str}{v:V}{u:Value}{Q:Unit→Shared→Prop}(I:Inv X pins σ H s)(hN:X.N.Nodup)(hi:X.N[i]?=some x)(hx:Loc X.env.scope x)(r:RelV v u)
  (h: ∀s',Inv X pins (σ.set i (some v)) H s'→Q () s') (hf:X.fn x=true∨X.env.scope.names.lookup x=some .local:=by first|exact .inl rfl|exact .inr rfl|assumption):wpAny M A (storeName X.env x u) Q E s:=
 HN I hN hi hx r (fun s' I' _=>h s' I') hf
theorem Inv.call'{s':Shared}{ch:List Addr}(I:Inv X pins σ H s)(ho:s'.os=s.os)(u:Un (frs X.stack) ch H H' s.heap s'.heap)(hok:HOk X.prog X.w H' s'.heap)(hg:AllBare s'.gens)
  (hch: ∀b∈ch,(b∈X.ex∨X.s_0.heap.objs.size≤b)∧b≠X.env.locals∧(∀x c,X.env.cells.lookup x=some c→c≠b)∧∀p∈X.pn++pins,p.1≠b):Inv X pins σ H' s':=by
 obtain⟨h',g',d',t',o'⟩:=s'
 have e:o'=s.os:=ho
 subst e
 exact I.call (g':=g') (t':=t') (d':=d') u hok hg hch
end
abbrev XK:=Value→Option Addr→Hp→Prop
abbrev St:=List (Option V)
abbrev VK:=V→Hp→Prop
abbrev TE:=St→Hp→VK→Prop
abbrev TT:=St→Hp→(Bool→Hp→Prop)→Prop
abbrev TA:=St→Hp→(List V→Hp→Prop)→Prop
structure Ends where
 nx:St→Hp→Prop
 rt:VK
 bk:St→Hp→Prop:=fun _ _=>False
 ct:St→Hp→Prop:=fun _ _=>False
abbrev TS:=Ends→St→Hp→Prop
def EP(X:Cx)(pins:List (Addr×Obj))(σ:St)(Q:VK)(u:Value)(s':Shared):Prop:=∃v H',Inv X pins σ H' s'∧RelV v u∧Q v H'
def TP(X:Cx)(pins:List (Addr×Obj))(σ:St)(Q:Bool→Hp→Prop)(b:Bool)(s':Shared):Prop:=∃H',Inv X pins σ H' s'∧Q b H'
def AP(X:Cx)(pins:List (Addr×Obj))(σ:St)(Q:List V→Hp→Prop)(us:List Value)(s':Shared):Prop:=∃vs H',Inv X pins σ H' s'∧Vals vs us∧Q vs H'
def SP(X:Cx)(pins:List (Addr×Obj))(D:Ends)(f:Flow)(s':Shared):Prop:=
 match f with
 | .next=>∃σ' H',Inv X pins σ' H' s'∧D.nx σ' H'
 | .brk=>∃σ' H',Inv X pins σ' H' s'∧D.bk σ' H'
 | .cont=>∃σ' H',Inv X pins σ' H' s'∧D.ct σ' H'
 | .ret u=>∃v σ' H',Inv X pins σ' H' s'∧RelV v u∧D.rt v H'
def PE(X:Cx)(e:Expr)(t:TE):Prop:=
 ∀(pins:List (Addr×Obj)) (s:Shared) (σ:St) (H:Hp) (Q:VK),Inv X pins σ H s→t σ H Q→wpAny (model X.prog X.w) X.A (eval e X.env) (EP X pins σ Q) X.xe s
def PT(X:Cx)(e:Expr)(t:TT):Prop:=
 ∀(pins:List (Addr×Obj)) (s:Shared) (σ:St) (H:Hp) (Q:Bool→Hp→Prop),Inv X pins σ H s→t σ H Q→wpAny (model X.prog X.w) X.A (isTrue e X.env (eval e X.env)) (TP X pins σ Q) X.xe s
def PW(X:Cx)(e:Expr)(t:TT):Prop:=
 ∀(whole:Sem Value) (pins:List (Addr×Obj)) (s:Shared) (σ:St) (H:Hp) (Q:Bool→Hp→Prop),Inv X pins σ H s→t σ H Q→wpAny (model X.prog X.w) X.A (isTrue e X.env whole) (TP X pins σ Q) X.xe s
theorem PW.pt{X:Cx}{e:Expr}{t:TT}(h:PW X e t):PT X e t:=h _
def PA(X:Cx)(es:List Expr)(t:TA):Prop:=
 ∀(pos:Pos) (pins:List (Addr×Obj)) (s:Shared) (σ:St) (H:Hp) (Q:List V→Hp→Prop),Inv X pins σ H s→t σ H Q→wpAny (model X.prog X.w) X.A (spliced (backTo pos (starEach es X.env))) (AP X pins σ Q) X.xe s
def PS(X:Cx)(st:Stmt)(t:TS):Prop:=
 ∀(pins:List (Addr×Obj)) (s:Shared) (σ:St) (H:Hp) (D:Ends),Inv X pins σ H s→t D σ H→wpAny (model X.prog X.w) X.A (exec st X.env) (SP X pins D) X.xe s
def PSs(X:Cx)(st:List Stmt)(t:TS):Prop:=
 ∀(pins:List (Addr×Obj)) (s:Shared) (σ:St) (H:Hp) (D:Ends),Inv X pins σ H s→t D σ H→wpAny (model X.prog X.w) X.A (execs st X.env) (SP X pins D) X.xe s
theorem thn{α:Type}{t:Sem α}{Q Q':α→Shared→Prop}{M:Model}{A:Around}{E:Value→Shared→Prop}{s:Shared}(h:wpAny M A t Q E s)(hQ: ∀a s,Q a s→Q' a s):wpAny M A t Q' E s:=wpAny_mono h hQ fun _ _ x=>x
section
variable{X:Cx}
def gW(i:Nat):TE:=fun σ H Q=>∃v,σ[i]?=some (some v)∧Q v H
def tC(v:V):TE:=fun _ H Q=>Q v H
theorem Zi{i:Nat}{x:Str}{pos:Pos}(hN:X.N[i]?=some x)(hv:Vis X.env.scope x)(hd:(x==("__debug__":Str))=false:=by decide)(hcd:(x==("__classdict__":Str))=false:=by decide):PE X (.Name x pos) (gW i):=by
 intro pins s σ H Q I h
 obtain⟨v,e,h⟩:=h
 obtain⟨m,hn,hl⟩:=I.loc
 obtain⟨u,r,l⟩:=hl i x v hN e hv
 have fin:EP X pins σ Q u s:=⟨v,H,I,r,h⟩
 rcases l with⟨hk,hm⟩|⟨hk,c,hc,hcell⟩
 ·exact wpAny_Name (wpAny_loadName_local I.ok.kind hk hn hm fin) hd
 ·rcases hk with hk|hk
  ·exact wpAny_Name (wpAny_loadName_cell I.ok.kind hk hc hcell fin) hd
  ·exact wpAny_Name (wpAny_loadName_free I.ok.kind hk hc hcell fin hcd) hd
theorem bB{i j pos}:PE X (.Constant (.int i) j pos) (tC (.int i)):=fun _ _ _ H _ I h=>wpAny_Constant_int ⟨.int i,H,I.tok _,⟨_,rfl⟩,h⟩
theorem jD{b j pos}:PE X (.Constant (.bool b) j pos) (tC (.bl b)):=fun _ _ _ H _ I h=>Constant_bool ⟨.bl b,H,I,rfl,h⟩
theorem dW{j pos}:PE X (.Constant .none j pos) (tC .non):=fun _ _ _ H _ I h=>Constant_none ⟨.non,H,I,rfl,h⟩
def Gl(X:Cx)(x:Str):Prop:=X.env.kindOf x=some .globalImplicit
theorem Cv{E:Value→Shared→Prop}{pins:List (Addr×Obj)}{s:Shared}{σ:St}{H:Hp}{x:Str}{u:Value}{pos:Pos}{Q:Value→Shared→Prop}(I:Inv X pins σ H s)(hg:Gl X x)(hm:X.mg x=some u)(h:Q u s)
  (hd:(x==("__debug__":Str))=false:=by decide):wpAny (model X.prog X.w) X.A (eval (.Name x pos) X.env) Q E s:=
 Calls.Name_function_global I.ok.kind hg (Calls.loadGlobal_global (by rw[I.ok.glob];exact I.mod.glob.keeps I.bk) hm h) hd
theorem tV{E:Value→Shared→Prop}{pins:List (Addr×Obj)}{s:Shared}{σ:St}{H:Hp}{x:Str}{u:Value}{pos:Pos}{Q:Value→Shared→Prop}(I:Inv X pins σ H s)(hg:Gl X x)(hm:X.mg x=none)(hv:bootBuiltins x=some u)(h:Q u s)
  (hn:x≠"__name__":=by decide) (hd:(x==("__debug__":Str))=false:=by decide):wpAny (model X.prog X.w) X.A (eval (.Name x pos) X.env) Q E s:=by
 obtain⟨mb,h1,h2⟩:=I.mod.blt
 exact Calls.Name_function_global I.ok.kind hg (Calls.loadGlobal_builtin (by rw[I.ok.glob];exact I.mod.glob.keeps I.bk) hm (by rw[I.ok.blt];exact h1.keeps I.bk) ((h2 x hn).trans hv) h) hd
theorem Rq{x:Str}{v:V}{u:Value}{pos:Pos}(hg:Gl X x)(hm:X.mg x=some u)(r:RelV v u)(hd:(x==("__debug__":Str))=false:=by decide):PE X (.Name x pos) (tC v):=
 fun _ _ _ H _ I h=>Cv I hg hm ⟨v,H,I,r,h⟩ hd
variable{a b:Expr}{ta tb:TE}{pos:Pos}
def PC(X:Cx)(op:CmpOp)(a b:Expr)(t:TE):Prop:=
 ∀(pins:List (Addr×Obj)) (s:Shared) (σ:St) (H:Hp) (Q:VK),Inv X pins σ H s→t σ H Q→
  wpAny (model X.prog X.w) X.A (eval a X.env) (fun v s₁=>wpAny (model X.prog X.w) X.A (eval b X.env) (fun u s₂=>wpAny (model X.prog X.w) X.A (compareOp op v u) (EP X pins σ Q) X.xe s₂) X.xe s₁) X.xe s
def tB(t:TE):TT:=fun σ H Q=>t σ H fun x H1=>∃c,x= .bl c∧Q c H1
theorem Vb{op:CmpOp}{t:TE}(h:PC X op a b t)(h1:behindInMarks op b=false:=by first|exact aaE _ (by decide) (by decide)|rfl):PT X (.Compare a [op] [b] pos) (tB t):=by
 intro pins s σ H Q I hw
 refine wpAny_isTrue_Compare1 (thn (h pins s σ H _ I hw) fun v s1 h1=>thn h1 fun u s2 h2=>thn h2 fun c s3 ⟨x,H1,I1,r1,q1⟩=>?_) h1
 obtain⟨d,rfl,q⟩:=q1
 cases r1
 exact wpAny_truthy_bool ⟨H1,I1,q⟩
theorem fM{e:Expr}{t:TE}(h:PE X e t)(he: ∀whole,isTrue e X.env whole=(do let v←whole;standAt e.pos;holding [v] (truthy v)):=by intro _;rfl):PT X e (tB t):=by
 intro pins s σ H Q I hw
 refine isTrue_plain (thn (h pins s σ H _ I hw) fun v s1 ⟨x,H1,I1,r1,q1⟩=>?_) (he _)
 obtain⟨d,rfl,q⟩:=q1
 cases r1
 exact wpAny_truthy_bool ⟨H1,I1,q⟩
variable{tA tB':TT}{rest:List Expr}
def tAnd(t u:TT):TT:=fun σ H Q=>t σ H fun c H1=>if c=true then u σ H1 Q else Q false H1
def tOr(t u:TT):TT:=fun σ H Q=>t σ H fun c H1=>if c=true then Q true H1 else u σ H1 Q
def Xi(t:TT):TT:=fun σ H Q=>t σ H fun c H1=>Q (!c) H1
theorem qL(ha:PT X a tA):PW X (.BoolOp .And [a] pos) tA:=by
 intro wh pins s σ H Q I h
 refine isTrue_and (thn (ha pins s σ H Q I h) fun c s1 e=>?_)
 cases c with
 |true=>exact isTrue_and_nil e
 |false=>exact e
theorem qM(ha:PT X a tA):PW X (.BoolOp .Or [a] pos) tA:=by
 intro wh pins s σ H Q I h
 refine isTrue_or (thn (ha pins s σ H Q I h) fun c s1 e=>?_)
 cases c with
 |false=>exact isTrue_or_nil e
 |true=>exact e
theorem wK(ha:PT X a tA)(hb:PW X (.BoolOp .And (b::rest) pos) tB'):PW X (.BoolOp .And (a::b::rest) pos) (tAnd tA tB'):=by
 intro wh pins s σ H Q I h
 refine isTrue_and (thn (ha pins s σ H _ I h) fun c s1 ⟨H1,I1,q1⟩=>?_)
 cases c with
 |true=>exact hb wh pins s1 σ H1 Q I1 q1
 |false=>exact⟨H1,I1,q1⟩
theorem xX(ha:PT X a tA)(hb:PW X (.BoolOp .Or (b::rest) pos) tB'):PW X (.BoolOp .Or (a::b::rest) pos) (tOr tA tB'):=by
 intro wh pins s σ H Q I h
 refine isTrue_or (thn (ha pins s σ H _ I h) fun c s1 ⟨H1,I1,q1⟩=>?_)
 cases c with
 |true=>exact⟨H1,I1,q1⟩
 |false=>exact hb wh pins s1 σ H1 Q I1 q1
theorem gM(ha:PT X a tA):PT X (.UnaryOp .Not a pos) (Xi tA):=by
 intro pins s σ H Q I h
 exact isTrue_not (ha pins s σ H (fun c H1=>Q (!c) H1) I h)
def aaF(ta tb:TE):TE:=fun σ H Q=>ta σ H fun x H1=>∃c,x= .bl c∧if c=true then tb σ H1 Q else Q (.bl false) H1
def tOrV(ta tb:TE):TE:=fun σ H Q=>ta σ H fun x H1=>∃c,x= .bl c∧if c=true then Q (.bl true) H1 else tb σ H1 Q
def aaG(ta:TE):TE:=fun σ H Q=>ta σ H fun x H1=>∃c,x= .bl c∧Q (.bl (!c)) H1
theorem Dj{op}{t:TE}(h:PE X a t):PE X (.BoolOp op [a] pos) t:=fun pins s σ H Q I hw=>BoolOp_one (h pins s σ H Q I hw)
theorem Pu(ha:PE X a ta)(hb:PE X (.BoolOp .And (b::rest) pos) tb):PE X (.BoolOp .And (a::b::rest) pos) (aaF ta tb):=by
 intro pins s σ H Q I h
 refine BoolOp_and (thn (ha pins s σ H _ I h) fun v s1 ⟨x,H1,I1,r1,q1⟩=>?_)
 obtain⟨c,rfl,q1⟩:=q1
 cases r1
 refine wpAny_truthy_bool ?_
 cases c with
 |true=>exact hb pins s1 σ H1 Q I1 q1
 |false=>exact⟨.bl false,H1,I1,rfl,q1⟩
theorem YH(ha:PE X a ta)(hb:PE X (.BoolOp .Or (b::rest) pos) tb):PE X (.BoolOp .Or (a::b::rest) pos) (tOrV ta tb):=by
 intro pins s σ H Q I h
 refine BoolOp_or (thn (ha pins s σ H _ I h) fun v s1 ⟨x,H1,I1,r1,q1⟩=>?_)
 obtain⟨c,rfl,q1⟩:=q1
 cases r1
 refine wpAny_truthy_bool ?_
 cases c with
 |false=>exact hb pins s1 σ H1 Q I1 q1
 |true=>exact⟨.bl true,H1,I1,rfl,q1⟩
theorem Zj(ha:PE X a ta):PE X (.UnaryOp .Not a pos) (aaG ta):=by
 intro pins s σ H Q I h
 refine UnaryOp_ (thn (ha pins s σ H _ I h) fun v s1 ⟨x,H1,I1,r1,q1⟩=>?_)
 obtain⟨c,rfl,q1⟩:=q1
 cases r1
 exact not_of (wpAny_truthy_bool ⟨.bl (!c),H1,I1,rfl,q1⟩)
def tIf(t:TT)(ta tb:TE):TE:=fun σ H Q=>t σ H fun c H1=>if c=true then ta σ H1 Q else tb σ H1 Q
theorem Vc{c:Expr}(hc:PT X c tA)(ha:PE X a ta)(hb:PE X b tb):PE X (.IfExp c a b pos) (tIf tA ta tb):=by
 intro pins s σ H Q I h
 refine wpAny_IfExp (thn (hc pins s σ H _ I h) fun d s1 ⟨H1,I1,q1⟩=>?_)
 cases d with
 |true=>exact ha pins s1 σ H1 Q I1 q1
 |false=>exact hb pins s1 σ H1 Q I1 q1
end
def SqL(K:PySem.W.Frag)(H:Hp)(a:Addr)(xs:List V):Prop:=
 Rd H a (.lst xs)∨
  ∃(o:Obj) (its:Array Value) (n:Nat),K.lookup a=some o∧o.cls= .type "list"∧o.dict=none∧o.data= .seq its n∧its.size≤sizeLine∧Vals xs its.toList
def SqT(K:PySem.W.Frag)(H:Hp)(a:Addr)(xs:List V):Prop:=
 Rd H a (.tup xs)∨
  ∃(o:Obj) (its:Array Value) (n:Nat),K.lookup a=some o∧o.cls= .type "tuple"∧o.data= .seq its n∧its.size≤sizeLine∧Vals xs its.toList
def absV:Value→Option V
 | .none=>some .non
 | .bool b=>some (.bl b)
 | .int i _=>some (.int i)
 | .str x _=>some (.str x)
 | .bytes b _=>some (.byt b)
 | .float b _=>some (.flt b)
 | .ref a=>some (.ref a)
 | .type n=>some (.ty n)
 |_=>none
theorem RelV.abs{x:V}{u:Value}(r:RelV x u):absV u=some x:=by
 cases x with
 |non=>cases r;rfl
 |bl _=>cases r;rfl
 |int _=>obtain⟨t,rfl⟩:=r;rfl
 |str _=>obtain⟨t,rfl⟩:=r;rfl
 |byt _=>obtain⟨t,rfl⟩:=r;rfl
 |flt _=>obtain⟨t,rfl⟩:=r;rfl
 |ref _=>cases r;rfl
 |ty _=>cases r;rfl
theorem RelV.inj{x y:V}{u:Value}(r:RelV x u)(q:RelV y u):x=y:=Option.some.inj (r.abs.symm.trans q.abs)
theorem Vals.inj: ∀{xs ys:List V} {us:List Value},Vals xs us→Vals ys us→xs=ys
 |_,_,_,.nil,.nil=>rfl
 |_,_,_,.cons r t,.cons r' t'=>by rw[r.inj r',Vals.inj t t']
section
variable{X:Cx}{pins:List (Addr×Obj)}{σ:St}{H:Hp}{s:Shared}{a:Addr}{xs ys:List V}
theorem SqL.of{K:PySem.W.Frag}(h:H a=some (.lst xs)):SqL K H a xs:= .inl (.inl h)
theorem SqT.of{K:PySem.W.Frag}(h:H a=some (.tup xs)):SqT K H a xs:= .inl (.inl h)
theorem Inv.list(I:Inv X pins σ H s)(h:SqL X.K H a xs): ∃its:List Value,Vals xs its∧PlainL s.heap a its.toArray∧xs.length≤sizeLine:=by
 rcases h with h|⟨o,its,n,hk,hc,hd,hs,hz,r⟩
 ·obtain⟨z,its,n,r,e⟩:=h.ok I.hok
  exact⟨its,r,⟨_,n,e,rfl,rfl,rfl⟩,z⟩
 ·refine⟨its.toList,r,⟨o,n,I.kIn a o hk,hc,hd,by simpa using hs⟩,?_⟩
  have e:=r.length
  simp only[Array.length_toList] at e
  omega
theorem Inv.tuple(I:Inv X pins σ H s)(h:SqT X.K H a xs): ∃its:List Value,Vals xs its∧IsTup s.heap a its.toArray∧xs.length≤sizeLine:=by
 rcases h with h|⟨o,its,n,hk,hc,hs,hz,r⟩
 ·obtain⟨z,its,r,p⟩:=h.ok I.hok
  exact⟨its,r,p,z⟩
 ·refine⟨its.toList,r,⟨o,I.kIn a o hk,hc,n,by simpa using hs⟩,?_⟩
  have e:=r.length
  simp only[Array.length_toList] at e
  omega
theorem Inv.xY(I:Inv X pins σ H s)(h:SqL X.K H a xs)(h':SqL X.K H a ys):xs=ys:=by
 obtain⟨its,r,⟨o,n,e,_,_,d⟩,_⟩:=I.list h
 obtain⟨its',r',⟨o',n',e',_,_,d'⟩,_⟩:=I.list h'
 rw[e] at e';cases e'
 rw[d] at d'
 injection d' with d1 _
 have:its=its':=by simpa using congrArg Array.toList d1
 subst this
 exact r.inj r'
end
abbrev Cx.wish(X:Cx)(E:Value→Shared→Prop):Cx:={X with xe:=E}
abbrev Cx.nox(X:Cx):Cx:=X.wish fun _ _=>False
theorem Cx.Ok.wish{X:Cx}(ok:X.Ok)(E:Value→Shared→Prop):(X.wish E).Ok:=
 ⟨ok.mod,ok.kind,ok.glob,ok.blt,ok.above,ok.inj,ok.has,ok.cab,ok.hd,ok.frames,ok.stk,ok.exf,ok.bs,ok.bsz,ok.U9,ok.Va,ok.BP,ok.frf⟩
theorem Cx.Ok.tW{X:Cx}{E:Value→Shared→Prop}(ok:(X.wish E).Ok):X.Ok:=
 ⟨ok.mod,ok.kind,ok.glob,ok.blt,ok.above,ok.inj,ok.has,ok.cab,ok.hd,ok.frames,ok.stk,ok.exf,ok.bs,ok.bsz,ok.U9,ok.Va,ok.BP,ok.frf⟩
section
variable{X:Cx}{pins:List (Addr×Obj)}{σ:St}{H:Hp}{s:Shared}{E:Value→Shared→Prop}
theorem Inv.wish(I:Inv X pins σ H s)(E:Value→Shared→Prop):Inv (X.wish E) pins σ H s:=⟨I.ok.wish E,I.os,I.bare,I.base,I.loc,I.cell,I.free,I.sW,I.pin,I.hok,I.len⟩
theorem Inv.tW(I:Inv (X.wish E) pins σ H s):Inv X pins σ H s:=⟨I.ok.tW,I.os,I.bare,I.base,I.loc,I.cell,I.free,I.sW,I.pin,I.hok,I.len⟩
theorem SP.tW{D:Ends}{f:Flow}{s':Shared}(h:SP (X.wish E) pins D f s'):SP X pins D f s':=by
 cases f with
 |next=>obtain⟨σ',H',I,q⟩:=h;exact⟨σ',H',I.tW,q⟩
 |brk=>obtain⟨σ',H',I,q⟩:=h;exact⟨σ',H',I.tW,q⟩
 |cont=>obtain⟨σ',H',I,q⟩:=h;exact⟨σ',H',I.tW,q⟩
 |ret u=>obtain⟨v,σ',H',I,r,q⟩:=h;exact⟨v,σ',H',I.tW,r,q⟩
theorem PSs.nox{st:List Stmt}{t:TS}(h:PSs X.nox st t):PSs X st t:=fun pins s σ H D I hw=>
 wpAny_mono (h pins s σ H D (I.wish _) hw) (fun _ _ q=>q.tW) fun _ _ z=>False.elim z
end
section
variable{X:Cx}{st:Stmt}{rest:List Stmt}{t u:TS}{e:Expr}{te:TE}{pos:Pos}
def HS:TS:=fun D σ H=>D.nx σ H
def BR(t u:TS):TS:=fun D σ H=>t {D with nx:=u D} σ H
theorem aZ:PSs X [] HS:=fun _ _ σ H _ I h=>wpAny_execs_nil ⟨σ,H,I,h⟩
theorem aB(h1:PS X st t)(h2:PSs X rest u):PSs X (st::rest) (BR t u):=by
 intro pins s σ H D I h
 refine wpAny_execs_cons (thn (h1 pins s σ H {D with nx:=u D} I h) fun f s1 q=>?_)
 cases f with
 |next=>
  obtain⟨σ',H',I',q⟩:=q
  exact h2 pins s1 σ' H' D I' q
 |ret v=>exact q
 |brk=>exact q
 |cont=>exact q
theorem aF(h1:PS X st t):PSs X [st] t:=by
 intro pins s σ H D I h
 refine wpAny_execs_cons (thn (h1 pins s σ H D I h) fun f s1 q=>?_)
 cases f with
 |next=>exact wpAny_execs_nil q
 |ret v=>exact q
 |brk=>exact q
 |cont=>exact q
theorem Inv.quiet{pins:List (Addr×Obj)}{σ:St}{H:Hp}{s:Shared}(I:Inv X pins σ H s):interactive X.env=false:=by simp[interactive,I.ok.kind]
def Vd(te:TE):TS:=fun D σ H=>te σ H fun _ H1=>D.nx σ H1
theorem dj(he:PE X e te)(hs:swapsWith e none pos.line X.env=pure false:=by rfl):PS X (.Expr e pos) (Vd te):=by
 intro pins s σ H D I h
 exact wpAny_Expr_any (thn (he pins s σ H _ I h) fun v s1 ⟨x,H1,I1,r1,q1⟩=>⟨σ,H1,I1,q1⟩) I.quiet hs
def Dk(te:TE):TS:=fun D σ H=>te σ H D.rt
theorem aP(he:PE X e te):PS X (.Return (some e) pos) (Dk te):=by
 intro pins s σ H D I h
 exact wpAny_Return_some (thn (he pins s σ H _ I h) fun v s1 ⟨x,H1,I1,r1,q1⟩=>⟨x,σ,H1,I1,r1,q1⟩)
def SN(c:TT)(t u:TS):TS:=fun D σ H=>c σ H fun b H1=>if b=true then t D σ H1 else u D σ H1
theorem bI{c:Expr}{a b:List Stmt}{tc:TT}(hc:PT X c tc)(ha:PSs X a t)(hb:PSs X b u):PS X (.If c a b pos) (SN tc t u):=by
 intro pins s σ H D I h
 refine wpAny_If (thn (hc pins s σ H _ I h) fun d s1 ⟨H1,I1,q1⟩=>?_)
 cases d with
 |true=>exact ha pins s1 σ H1 D I1 q1
 |false=>exact hb pins s1 σ H1 D I1 q1
end
abbrev TG:=V→St→Hp→(St→Hp→Prop)→Prop
abbrev TGs:=List V→St→Hp→(St→Hp→Prop)→Prop
def PG(X:Cx)(target:Expr)(t:TG):Prop:=
 ∀(pins:List (Addr×Obj)) (s:Shared) (σ:St) (H:Hp) (v:V) (u:Value) (Q:St→Hp→Prop),Inv X pins σ H s→RelV v u→t v σ H Q→
  wpAny (model X.prog X.w) X.A (assign target X.env u) (fun _ s'=>∃σ' H',Inv X pins σ' H' s'∧Q σ' H') X.xe s
def PGs(X:Cx)(ts:List Expr)(t:TGs):Prop:=
 ∀(pins:List (Addr×Obj)) (s:Shared) (σ:St) (H:Hp) (vs:List V) (us:List Value) (Q:St→Hp→Prop),Inv X pins σ H s→Vals vs us→t vs σ H Q→
  wpAny (model X.prog X.w) X.A (assignInOrder ((assignEach ts X.env).map (·.2)) us) (fun _ s'=>∃σ' H',Inv X pins σ' H' s'∧Q σ' H') X.xe s
abbrev Zk:=V→V→V→Hp→(Hp→Prop)→Prop
def PSet(X:Cx)(t:Zk):Prop:=
 ∀(pins:List (Addr×Obj)) (s:Shared) (σ:St) (H:Hp) (o i v:V) (ov iv u:Value) (Q:Hp→Prop),Inv X pins σ H s→RelV o ov→RelV i iv→RelV v u→t o i v H Q→
  wpAny (model X.prog X.w) X.A (setItem ov iv u) (fun _ s'=>∃H',Inv X pins σ H' s'∧Q H') X.xe s
abbrev TIp:=V→V→Hp→VK→Prop
def PIp(X:Cx)(op:Operator)(t:TIp):Prop:=
 ∀(pins:List (Addr×Obj)) (s:Shared) (σ:St) (H:Hp) (x y:V) (v u:Value) (Q:VK),Inv X pins σ H s→RelV x v→RelV y u→t x y H Q→
  wpAny (model X.prog X.w) X.A (inplaceOp op v u) (EP X pins σ Q) X.xe s
section
variable{X:Cx}{pos:Pos}
def wk(i:Nat):TG:=fun v σ H Q=>Q (σ.set i (some v)) H
theorem bF{i:Nat}{x:Str}(hN:X.N.Nodup)(hi:X.N[i]?=some x)(hx:Loc X.env.scope x)(hf:X.fn x=true∨X.env.scope.names.lookup x=some .local:=by first|exact .inl rfl|exact .inr rfl|assumption):PG X (.Name x pos) (wk i):=by
 intro pins s σ H v u Q I r h
 exact wpAny_assign_Name (Di I hN hi hx r (fun s' I'=>⟨_,H,I',h⟩) hf)
def gNil:TGs:=fun vs σ H Q=>vs=[]∧Q σ H
def Ve(t:TG)(u:TGs):TGs:=fun vs σ H Q=>∃v r,vs=v::r∧t v σ H fun σ' H'=>u r σ' H' Q
theorem mC:PGs X [] gNil:=by
 intro pins s σ H vs us Q I r h
 obtain⟨e,h⟩:=h
 subst e
 cases r
 exact assignInOrder_nil ⟨σ,H,I,h⟩
theorem dz{e:Expr}{es:List Expr}{t:TG}{u:TGs}(h1:PG X e t)(h2:PGs X es u)
  (hs:(assignEach (e::es) X.env).map (·.2)=assign e X.env::(assignEach es X.env).map (·.2):=by rfl):PGs X (e::es) (Ve t u):=by
 intro pins s σ H vs us Q I r h
 obtain⟨v,vr,e1,h⟩:=h
 subst e1
 cases r with
 |cons r rr=>
  rw[hs]
  refine assignInOrder_cons (thn (h1 pins s σ H _ _ _ I r h) fun _ s1 ⟨σ1,H1,I1,q1⟩=>?_)
  exact h2 pins s1 σ1 H1 _ _ Q I1 rr q1
def gTup(K:PySem.W.Frag)(n:Nat)(t:TGs):TG:=fun v σ H Q=>∃a xs,v= .ref a∧SqT K H a xs∧xs.length=n∧t xs σ H Q
theorem qN{es:List Expr}{k:Nat}{t:TGs}{n:Nat}(hc:X.calm=true)(h:PGs X es t)
  (hn:(assignEach es X.env).length=n:=by rfl) (hst:(assignEach es X.env).findIdx? (·.1)=none:=by rfl):PG X (.Tuple es k pos) (gTup X.K n t):=by
 intro pins s σ H v u Q I r hw
 obtain⟨a,xs,e1,hq,hl,hw⟩:=hw
 subst e1
 cases r
 obtain⟨its,rv,ht,hz⟩:=I.tuple hq
 refine assign_Tuple_tuple (I.ok.hd hc) ht (by simp[hn,←hl,rv.length]) hst fun h' hx=>?_
 have I1:Inv X pins σ H {s with heap:=h'}:=I.kept (t':=s.toks) fun b o e=>hx b o (Nat.ne_of_lt (Heap.lt_size e)) e
 exact h pins _ σ H xs _ Q I1 (by simpa using rv) hw
def gSub(to ti:TE)(t:Zk):TG:=fun v σ H Q=>to σ H fun o H1=>ti σ H1 fun i H2=>t o i v H2 fun H3=>Q σ H3
theorem Zm{o i:Expr}{to ti:TE}{t:Zk}(ho:PE X o to)(hi:PE X i ti)(hs:PSet X t)
  (ha: ∀v,assign (.Subscript o i pos) X.env v=(do
   let ov←holding [v] (eval o X.env)
   let iv←holding [v,ov] (eval i X.env)
   standAt pos
   holding [v,ov,iv] (setItem ov iv v)
   release [v,ov,iv] []):=by intro _;rfl):PG X (.Subscript o i pos) (gSub to ti t):=by
 intro pins s σ H v u Q I r h
 rw[ha]
 refine wpAny_bind (wpAny_holding (thn (ho pins s σ H _ I h) fun ov s1 ⟨x,H1,I1,r1,q1⟩=>?_))
 refine wpAny_bind (wpAny_holding (thn (hi pins s1 σ H1 _ I1 q1) fun iv s2 ⟨y,H2,I2,r2,q2⟩=>?_))
 refine wpAny_bind (wpAny_standAt (wpAny_bind (wpAny_holding (thn (hs pins s2 σ H2 x y v ov iv u _ I2 r1 r2 r q2) fun _ s3 ⟨H3,I3,q3⟩=>?_))))
 exact wpAny_release ⟨σ,H3,I3,q3⟩
def Vf(te:TE)(g:TG):TS:=fun D σ H=>te σ H fun x H1=>g x σ H1 D.nx
theorem Zn{tg e:Expr}{te:TE}{g:TG}(he:PE X e te)(hg:PG X tg g)(hs:swapsWithSole [tg] e pos.line X.env=pure false:=by rfl)(hw:swappedStores [tg] e X.env=pure none:=by rfl)
  (h1:(assignEach [tg] X.env).map (·.2)=[assign tg X.env]:=by rfl):PS X (.Assign [tg] e pos) (Vf te g):=by
 intro pins s σ H D I h
 refine wpAny_Assign_stores (thn (he pins s σ H _ I h) fun v s1 ⟨x,H1,I1,r1,q1⟩=>?_) hs hw
 rw[h1]
 exact thn (hg pins s1 σ H1 x v _ I1 r1 q1) fun _ s2 q=>q
theorem aX{i:Nat}{x:Str}{e:Expr}{te:TE}{pos':Pos}(hN:X.N.Nodup)(hi:X.N[i]?=some x)(hx:Loc X.env.scope x)(he:PE X e te)(hs:swapsWith e (some (.Name x pos')) pos.line X.env=pure false:=by rfl)(hf:X.fn x=true∨X.env.scope.names.lookup x=some .local:=by first|exact .inl rfl|exact .inr rfl|assumption):
  PS X (.Assign [.Name x pos'] e pos) (Vf te (wk i)):=by
 intro pins s σ H D I h
 refine wpAny_Assign_Name (thn (he pins s σ H _ I h) fun v s1 ⟨y,H1,I1,r1,q1⟩=>?_) hs
 exact Di I1 hN hi hx r1 (fun s2 I2=>⟨_,H1,I2,q1⟩) hf
def tAug(i:Nat)(te:TE)(ti:TIp):TS:=fun D σ H=>∃x,σ[i]?=some (some x)∧te σ H fun y H1=>ti x y H1 fun z H2=>D.nx (σ.set i (some z)) H2
theorem zH{i:Nat}{x:Str}{e:Expr}{te:TE}{op:Operator}{ti:TIp}{pos':Pos}(hN:X.N.Nodup)(hi:X.N[i]?=some x)(hx:Loc X.env.scope x)(he:PE X e te)(ho:PIp X op ti)(hf:X.fn x=true∨X.env.scope.names.lookup x=some .local:=by first|exact .inl rfl|exact .inr rfl|assumption):
  PS X (.AugAssign (.Name x pos') op e pos) (tAug i te ti):=by
 intro pins s σ H D I h
 obtain⟨v,e1,h⟩:=h
 obtain⟨m,hn,hl⟩:=I.loc
 have vis:Vis X.env.scope x:=by rcases hx with k|k;exact .inl k;exact .inr (.inl k)
 obtain⟨u,r,l⟩:=hl i x v hi e1 vis
 refine wpAny_AugAssign_Name ?_
 have go:wpAny (model X.prog X.w) X.A (eval e X.env) (fun w s₂=>wpAny (model X.prog X.w) X.A (inplaceOp op u w) (fun r s₃=>wpAny (model X.prog X.w) X.A (storeName X.env x r) (fun _=>SP X pins D .next) X.xe s₃) X.xe s₂) X.xe s:=by
  refine thn (he pins s σ H _ I h) fun w s1 ⟨y,H1,I1,r1,q1⟩=>?_
  refine thn (ho pins s1 σ H1 v y u w _ I1 r r1 q1) fun z s2 ⟨zv,H2,I2,r2,q2⟩=>?_
  exact Di I2 hN hi hx r2 (fun s3 I3=>⟨_,H2,I3,q2⟩) hf
 rcases l with⟨hk,hm⟩|⟨hk,c,hc,hcell⟩
 ·exact wpAny_loadName_local I.ok.kind hk hn hm go
 ·rcases hk with hk|hk
  ·exact wpAny_loadName_cell I.ok.kind hk hc hcell go
  ·rcases hx with k|k
   ·have:X.env.scope.names.lookup x=some .free:=hk
    rw[k] at this;cases this
   ·have:X.env.scope.names.lookup x=some .free:=hk
    rw[k] at this;cases this
def ipI(f:Int→Int→Int):TIp:=fun x y H Q=>∃i j,x= .int i∧y= .int j∧Q (.int (f i j)) H
theorem Vg:PIp X .Add (ipI fun i j=>i+j):=by
 intro pins s σ H x y v u Q I r1 r2 h
 obtain⟨i,j,e1,e2,q⟩:=h
 subst e1;subst e2
 obtain⟨t,rfl⟩:=r1
 obtain⟨t',rfl⟩:=r2
 exact iadd_int ⟨.int _,H,I.tok _,⟨_,rfl⟩,q⟩
theorem Px:PIp X .Sub (ipI fun i j=>i - j):=by
 intro pins s σ H x y v u Q I r1 r2 h
 obtain⟨i,j,e1,e2,q⟩:=h
 subst e1;subst e2
 obtain⟨t,rfl⟩:=r1
 obtain⟨t',rfl⟩:=r2
 exact isub_int ⟨.int _,H,I.tok _,⟨_,rfl⟩,q⟩
def Zo(c:TT)(tb:TS):TS:=fun D σ H=>∃W:Nat→St→Hp→Prop,(∃m,W m σ H)∧∀m σ H,W m σ H→
 c σ H fun b H1=>if b=true then∃N:St→Hp→Prop,(∀σ' H',N σ' H'→∃m',m'<m∧W m' σ' H')∧tb {D with nx:=N,ct:=N,bk:=D.nx} σ H1 else D.nx σ H1
theorem pY{c:Expr}{body:List Stmt}{tc:TT}{tb:TS}(hp:PassesOwn (model X.prog X.w) X.A X.env X.xe)(hc:PT X c tc)(hb:PSs X body tb):PS X (.While c body [] pos) (Zo tc tb):=by
 intro pins s σ H D I h
 obtain⟨W,⟨m0,w0⟩,turn⟩:=h
 refine wpAny_While (codeAny_whileLoop (fun n s'=>∃σ' H',Inv X pins σ' H' s'∧W n σ' H') ?_ m0 ⟨σ,H,I,w0⟩)
 rintro n s1 ⟨σ1,H1,I1,w1⟩
 refine wpAny_passesOwn hp (thn (hc pins s1 σ1 H1 _ I1 (turn n σ1 H1 w1)) fun b s2 ⟨H2,I2,q2⟩=>?_)
 cases b with
 |true=>
  obtain⟨N,hN,q2⟩:=q2
  rw[if_pos rfl]
  refine wpAny_passesOwn hp (thn (hb pins s2 σ1 H2 _ I2 q2) fun f s3 q3=>?_)
  cases f with
  |next=>
   obtain⟨σ3,H3,I3,n3⟩:=q3
   obtain⟨m',hm,w3⟩:=hN σ3 H3 n3
   exact⟨m',hm,σ3,H3,I3,w3⟩
  |cont=>
   obtain⟨σ3,H3,I3,n3⟩:=q3
   obtain⟨m',hm,w3⟩:=hN σ3 H3 n3
   exact⟨m',hm,σ3,H3,I3,w3⟩
  |brk=>exact q3
  |ret v=>exact q3
 |false=>
  rw[if_neg Bool.false_ne_true]
  exact wpAny_execs_nil ⟨σ1,H2,I2,q2⟩
end
structure It where
 go:Nat→Hp→Prop
 yld:Nat→Hp→V→Hp→Prop
 stop:Nat→Hp→Prop
def zJ(X:Cx)(pins:List (Addr×Obj))(H:Hp)(b:Addr):Prop:=
 H b=none∧b≠X.env.locals∧b∉X.fs∧(b∈X.ex∨X.s_0.heap.objs.size≤b)∧(∀x c,X.env.cells.lookup x=some c→c≠b)∧∀p∈X.pn++pins,p.1≠b
theorem Inv.Py{X:Cx}{pins:List (Addr×Obj)}{σ:St}{H H':Hp}{s:Shared}{b:Addr}(I:Inv X pins σ H s)(hb:s.heap.objs.size≤b)(hn:H' b=none):zJ X pins H' b:=by
 refine⟨hn,Nat.ne_of_gt (Nat.lt_of_lt_of_le I.lt hb),I.nofs hb,.inr (Nat.le_trans I.sz hb),fun x c e z=>?_,fun p hp z=>?_⟩
 ·obtain⟨v,q⟩:=I.cell x c e
  exact absurd (Nat.lt_of_lt_of_le q.lt (by rw[z];exact hb)) (Nat.lt_irrefl _)
 ·exact absurd (Nat.lt_of_lt_of_le (Heap.lt_size (I.pin p hp).1) (by rw[z];exact hb)) (Nat.lt_irrefl _)
structure Turn(P:Program)(w:World)(K:PySem.W.Frag)(tg:Expr)(J:It)(fp:List Addr)(it:Addr)(tn:Nat→Heap→Prop):Prop where
 mem:it∈fp
 obj: ∀i h,tn i h→∀b∈fp,∃o,h.get? b=some o∧∀v,o.data≠ .cell v
 keep: ∀i h h',tn i h→(∀b∈fp,∀o,h.get? b=some o→h'.get? b=some o)→tn i h'
 item: ∀(X:Cx),X.prog=P→X.w=w→X.K=K→X.calm=true→∀(i:Nat) (pins:List (Addr×Obj)) (s:Shared) (σ:St) (H:Hp) (E:Value→Shared→Prop),Inv X pins σ H s→(∀b∈fp,zJ X pins H b)→tn i s.heap→J.go i H→
  wpAny (model P w) X.A (pyNext (.ref it)) (fun r s1=>∃u,r=some u∧
   wpAny (model P w) X.A (letOwnedTupleGo tg (.ref it) u) (fun _ s2=>∃x H',Inv X pins σ H' s2∧RelV x u∧J.yld i H x H'∧tn (i+1) s2.heap∧∀b∈fp,H' b=none) E s1) E s
 done: ∀(X:Cx),X.prog=P→X.w=w→X.K=K→X.calm=true→∀(i:Nat) (pins:List (Addr×Obj)) (s:Shared) (σ:St) (H:Hp) (E:Value→Shared→Prop),Inv X pins σ H s→(∀b∈fp,zJ X pins H b)→tn i s.heap→J.stop i H→
  wpAny (model P w) X.A (pyNext (.ref it)) (fun r s1=>r=none∧Inv X pins σ H s1) E s
 self: ∀(A:Around) (i:Nat) (s:Shared) (Q:Value→Shared→Prop) (E:Value→Shared→Prop),tn i s.heap→Q (.ref it) s→wpAny (model P w) A (pyIter (.ref it)) Q E s
abbrev TI:=St→Hp→(It→Hp→Prop)→Prop
def PIE(X:Cx)(pins:List (Addr×Obj))(σ:St)(tg:Expr)(R:It→Hp→Prop)(itv:Value)(s2:Shared):Prop:=
 ∃(it:Addr) (fp:List Addr) (tn:Nat→Heap→Prop) (J:It) (H':Hp),itv= .ref it∧Inv X pins σ H' s2∧Turn X.prog X.w X.K tg J fp it tn∧tn 0 s2.heap∧(∀b∈fp,zJ X pins H' b)∧R J H'
def PI(X:Cx)(tg iter:Expr)(wi:TI):Prop:=
 ∀(pins:List (Addr×Obj)) (s:Shared) (σ:St) (H:Hp) (R:It→Hp→Prop),Inv X pins σ H s→wi σ H R→
  wpAny (model X.prog X.w) X.A (eval iter X.env) (fun v s1=>wpAny (model X.prog X.w) X.A (pyIter v) (PIE X pins σ tg R) X.xe s1) X.xe s
theorem YJ{M:Model}{A:Around}{E:Value→Shared→Prop}{s:Shared}{tg:Expr}{it:Addr}{u:Value}{o:Obj}{n:String}{vs:Array Value}{Q:Unit→Shared→Prop}(ho:s.heap.get? it=some o)(hc:o.cls= .type n)(hd:o.data= .fields vs)
  (hn:["enumerate","zip","dict_itemiterator","dict_reverseitemiterator","odict_iterator","itertools.zip_longest","itertools.pairwise"].contains n=false) (hQ:Q () s):wpAny M A (letOwnedTupleGo tg (.ref it) u) Q E s:=by
 unfold letOwnedTupleGo
 cases tg<;>first
  |exact wpAny_pure hQ
  |(cases u<;>first
    |exact wpAny_pure hQ
    |(refine wpAny_bind (wpAny_load ho ?_)
      rw[hc,hd]
      show wpAny M A (if(["enumerate","zip","dict_itemiterator","dict_reverseitemiterator","odict_iterator","itertools.zip_longest","itertools.pairwise"].contains n&&vs[0]?==some (rawInt _))=true then _ else _) Q E s
      rw[if_neg (by intro h;rw[hn,Bool.false_and] at h;cases h)]
      exact wpAny_pure hQ))
def Itl(K:PySem.W.Frag)(a:Addr):It:=
 ⟨fun i H=>∃xs x,SqL K H a xs∧xs[i]?=some x,fun i H x H'=>H'=H∧∀xs,SqL K H a xs→xs[i]?=some x,fun i H=>∃xs,SqL K H a xs∧xs.length≤i⟩
def Itr(lo:Int)(n:Nat):It:=⟨fun i _=>i<n,fun i H x H'=>H'=H∧x= .int (lo+i),fun i _=>n≤i⟩
theorem SQ{P:Program}{w:World}{K:PySem.W.Frag}{tg:Expr}(a it:Addr):Turn P w K tg (Itl K a) [it] it (fun i h=>h.IsListIter it a i) where
 mem:=by simp
 obj:=fun i h st b hb=>by
  have e:b=it:=by simpa using hb
  subst e
  obtain⟨o,e,c,d⟩:=st
  exact⟨o,e,fun v z=>by rw[d] at z;cases z⟩
 keep:=fun i h h' st k=>st.at fun o e=>k it (by simp) o e
 item:=by
  intro X hP hw hK hc i pins s σ H E I hf st hg
  subst hP hw hK
  obtain⟨xs,x,hq,hx⟩:=hg
  obtain⟨its,rv,p,hz⟩:=I.list hq
  obtain⟨u,hu,ru⟩:=rv.get hx
  obtain⟨f0,f1,f2,f3,f4,f5⟩:=hf it (by simp)
  refine wpAny_pyNext_list_item st p.isList (x:=u) (by simpa using hu) fun h' st' sb=>?_
  have I1:Inv X pins σ H {s with heap:=h'}:=I.turned (t':=s.toks) (fun b o hb e=>(sb.2 b hb).trans e) f0 f1 f3 f4 f5
  obtain⟨o,e,c,d⟩:=id st'
  exact⟨u,rfl,YJ (s:={s with heap:=h'}) e c d (by decide) ⟨x,H,I1,ru,⟨rfl,fun ys hy=>by rw[I.xY hy hq];exact hx⟩,st',fun b hb=>(hf b hb).1⟩⟩
 done:=by
  intro X hP hw hK hc i pins s σ H E I hf st hg
  subst hP hw hK
  obtain⟨xs,hq,hx⟩:=hg
  obtain⟨its,rv,p,hz⟩:=I.list hq
  obtain⟨f0,f1,f2,f3,f4,f5⟩:=hf it (by simp)
  have hl:=rv.length
  exact wpAny_pyNext_list_end (I.ok.hd hc) st p.isList (by simp;omega) fun h' eb=>⟨rfl,I.turned (t':=s.toks) (fun b o hb e=>eb b o hb e) f0 f1 f3 f4 f5⟩
 self:=fun _ _ _ _ _ st h=>wpAny_pyIter_listiter st h
theorem Pz{P:Program}{w:World}{K:PySem.W.Frag}{tg:Expr}(it:Addr)(lo:Int)(n:Nat):Turn P w K tg (Itr lo n) [it] it (fun i h=>IsRangeIter h it (lo+(i:Nat) * 1) ((n:Int) - (i:Nat)) 1) where
 mem:=by simp
 obj:=fun i h st b hb=>by
  have e:b=it:=by simpa using hb
  subst e
  exact⟨_,st,fun v z=>by
   have z':Data.fields _=Data.cell v:=z
   cases z'⟩
 keep:=fun i h h' st k=>k it (by simp) _ st
 item:=by
  intro X hP hw hK hc i pins s σ H E I hf st hg
  subst hP hw hK
  obtain⟨f0,f1,f2,f3,f4,f5⟩:=hf it (by simp)
  have W:=Walks.range (prog:=X.prog) (w:=X.w) (I.ok.hd hc) it lo 1 n
  refine W.item i s _ _ hg st fun v h' tk hv st' kk=>?_
  obtain⟨t,rfl⟩:=hv
  have I1:Inv X pins σ H {s with heap:=h',toks:=tk}:=I.turned (fun b o hb e=>kk b o (by simpa using hb) e) f0 f1 f3 f4 f5
  refine⟨_,rfl,YJ (s:={s with heap:=h',toks:=tk}) (n:="range_iterator") st' rfl rfl (by decide) ⟨.int (lo+i),H,I1,⟨t,?_⟩,⟨rfl,rfl⟩,st',fun b hb=>(hf b hb).1⟩⟩
  rw[Int.mul_one]
 done:=by
  intro X hP hw hK hc i pins s σ H E I hf st hg
  subst hP hw hK
  obtain⟨f0,f1,f2,f3,f4,f5⟩:=hf it (by simp)
  exact wpAny_pyNext_range_end (I.ok.hd hc) st (by have:n≤i:=hg;omega) fun h' eb=>⟨rfl,I.turned (t':=s.toks) (fun b o hb e=>eb b o hb e) f0 f1 f3 f4 f5⟩
 self:=fun _ _ _ _ _ st h=>wpAny_pyIter_rangeiter st h
section
variable{X:Cx}{tg:Expr}
def aaK(K:PySem.W.Frag)(tl:TE):TI:=fun σ H R=>tl σ H fun x H1=>∃a,x= .ref a∧(∃xs,SqL K H1 a xs)∧R (Itl K a) H1
theorem eV{l:Expr}{tl:TE}(hl:PE X l tl):PI X tg l (aaK X.K tl):=by
 intro pins s σ H R I h
 refine thn (hl pins s σ H _ I h) fun v s1 ⟨x,H1,I1,r1,q1⟩=>?_
 obtain⟨a,e,⟨xs,hq⟩,q⟩:=q1
 subst e
 cases r1
 obtain⟨its,rv,p,hz⟩:=I1.list hq
 refine wpAny_pyIter_list p.isList ?_
 refine⟨s1.heap.objs.size,[s1.heap.objs.size],_,_,H1,rfl,I1.kept (t':=s1.toks) fun b o e=>Heap.get?_push_of_some _ e,SQ a _,⟨_,Heap.get?_push_size _ rfl,rfl,rfl⟩,fun b hb=>?_,q⟩
 have e:b=s1.heap.objs.size:=by simpa using hb
 subst e
 exact I1.Py (Nat.le_refl _) (I1.hok.fresh (Nat.le_refl _))
theorem Vh{pins:List (Addr×Obj)}{σ:St}{H:Hp}{s:Shared}{R:It→Hp→Prop}{E:Value→Shared→Prop}{lo hi:Int}{t u v:Tok}{tk:Nat}(I:Inv X pins σ H s)(h1: -(2 ^ 62)≤lo)(h2:lo<2 ^ 62)(h3: -(2 ^ 62)≤hi)(h4:hi<2 ^ 62)
  (q:R (Itr lo (hi - lo).toNat) H):wpAny (model X.prog X.w) X.A (pyIter (.ref s.heap.objs.size)) (PIE X pins σ tg R) E {s with heap:=s.heap.push {cls:= .type "range",data:= .fields #[.int lo t,.int hi u,.int 1 v]},toks:=tk}:=by
 refine wpAny_pyIter_range (IsRange.new ..) (small_one h1 h2 h3 h4) ?_
 have I1:Inv X pins σ H {s with heap:=s.heap.push {cls:= .type "range",data:= .fields #[.int lo t,.int hi u,.int 1 v]},toks:=tk}:=I.kept fun b o e=>Heap.get?_push_of_some _ e
 refine⟨(s.heap.push {cls:= .type "range",data:= .fields #[.int lo t,.int hi u,.int 1 v]}).objs.size,[(s.heap.push {cls:= .type "range",data:= .fields #[.int lo t,.int hi u,.int 1 v]}).objs.size],_,_,H,rfl,
  I1.kept (t':=tk) fun b o e=>Heap.get?_push_of_some _ e,Pz _ lo (hi - lo).toNat,?_,fun b hb=>?_,q⟩
 ·have e1:lo+((0:Nat):Int) * 1=lo:=by simp
  have e2:(((hi - lo).toNat:Nat):Int) - ((0:Nat):Int)=Builtin.Range.rangeSize lo hi 1:=by rw[rangeSize_one];split<;>omega
  show IsRangeIter _ _ (lo+((0:Nat):Int) * 1) ((((hi - lo).toNat:Nat):Int) - ((0:Nat):Int)) 1
  rw[e1,e2]
  exact Heap.get?_push_size _ rfl
 ·have e:b=(s.heap.push {cls:= .type "range",data:= .fields #[.int lo t,.int hi u,.int 1 v]}).objs.size:=by simpa using hb
  subst e
  exact I1.Py (Nat.le_refl _) (I1.hok.fresh (Nat.le_refl _))
def Vi(ta:TA):TI:=fun σ H R=>ta σ H fun vs H1=>∃j:Int,vs=[.int j]∧ -(2 ^ 62)≤j∧j<2 ^ 62∧R (Itr 0 j.toNat) H1
theorem gH{a:Expr}{ta:TA}{p pos:Pos}(hg:Gl X "range")(hm:X.mg "range"=none)(ha:PA X [a] ta)(hs:starEach [a] X.env=[(false,eval a X.env)]:=by rfl):PI X tg (.Call (.Name "range" p) [a] [] pos) (Vi ta):=by
 intro pins s σ H R I h
 refine Call_ (tV I hg hm boot_range (PyProof.Rows.callWith_type1 (thn (ha pos pins s σ H _ I h) fun us s1 ⟨vs,H1,I1,r1,q1⟩=>?_) hs rfl))
 obtain⟨j,e,q1,q2,q⟩:=q1
 subst e
 cases r1 with
 |cons r rr=>
  cases rr
  obtain⟨t,rfl⟩:=r
  exact call_range_1 (Vh I1 (by omega) (by omega) q1 q2 (by simpa using q))
def Xj(wi:TI)(g:TG)(tb:TS):TS:=fun D σ H=>wi σ H fun J H1=>∃W:Nat→Nat→St→Hp→Prop,(∃m,W 0 m σ H1)∧∀i m σ H,W i m σ H→
 (J.stop i H∧D.nx σ H)∨(J.go i H∧∃N:St→Hp→Prop,(∀σ' H',N σ' H'→∃m',m'<m∧W (i+1) m' σ' H')∧∀x H',J.yld i H x H'→g x σ H' fun σ2 H2=>tb {D with nx:=N,ct:=N,bk:=D.nx} σ2 H2)
def Dm(fp:List Addr)(h:Heap):List (Addr×Obj):=fp.filterMap fun b=>(h.get? b).map fun o=>(b,o)
theorem wL{fp:List Addr}{h:Heap}{b:Addr}{o:Obj}(hb:b∈fp)(e:h.get? b=some o):(b,o)∈Dm fp h:=List.mem_filterMap.mpr ⟨b,hb,by rw[e];rfl⟩
theorem SX{fp:List Addr}{h:Heap}{p:Addr×Obj}(hp:p∈Dm fp h):p.1∈fp∧h.get? p.1=some p.2:=by
 obtain⟨b,hb,e⟩:=List.mem_filterMap.mp hp
 cases q:h.get? b with
 |none=>rw[q] at e;cases e
 |some o=>
  rw[q] at e
  have e':(b,o)=p:=Option.some.inj e
  subst e'
  exact⟨hb,q⟩
theorem Inv.pinned{pins:List (Addr×Obj)}{σ:St}{H:Hp}{s:Shared}{fp:List Addr}(I:Inv X pins σ H s)(hf: ∀b∈fp,zJ X pins H b)(ho: ∀b∈fp,∃o,s.heap.get? b=some o∧∀v,o.data≠ .cell v):Inv X (pins++Dm fp s.heap) σ H s:=
 I.qK fun p hp=>(List.mem_append.mp hp).elim (fun z=>I.pin p (List.mem_append_right _ z)) fun z=>by
  obtain⟨hb,e⟩:=SX z
  obtain⟨f0,f1,f2,_⟩:=hf p.1 hb
  obtain⟨o,e',d⟩:=ho p.1 hb
  rw[e] at e';cases e'
  exact⟨e,f0,f1,f2,d⟩
theorem Inv.tX{pins pl:List (Addr×Obj)}{σ:St}{H:Hp}{s:Shared}(I:Inv X (pins++pl) σ H s):Inv X pins σ H s:=I.qK fun p hp=>I.pin p (List.mem_append_right _ (List.mem_append_left _ hp))
theorem dU{iter:Expr}{body:List Stmt}{wi:TI}{g:TG}{tb:TS}{pos:Pos}(hp:PassesOwn (model X.prog X.w) X.A X.env X.xe)(hc:X.calm=true)(hi:PI X tg iter wi)(hg:PG X tg g)(hb:PSs X body tb)
  (hs: ∀x,foldedSetIterable iter X.env x=pure x:=by intro _;rfl):PS X (.For tg iter body [] pos) (Xj wi g tb):=by
 intro pins s σ H D I h
 refine wpAny_For (thn (hi pins s σ H _ I h) fun v s1 h1=>thn h1 fun itv s2 h2=>?_) hs
 obtain⟨it,fp,tn,J,H2,e,I2,T,st2,f2,W,⟨m0,w0⟩,turn⟩:=h2
 subst e
 have stat: ∀{H':Hp},(∀b∈fp,H' b=none)→∀b∈fp,zJ X pins H' b:=fun hn b hb=>⟨hn b hb,(f2 b hb).2⟩
 refine codeAny_forLoop_any (fun n s'=>∃i σ' H',Inv X pins σ' H' s'∧tn i s'.heap∧(∀b∈fp,H' b=none)∧W i n σ' H') ?_ m0 ⟨0,σ,H2,I2,st2,fun b hb=>(f2 b hb).1,w0⟩
 rintro n s3 ⟨i,σ3,H3,I3,st3,fr3,w3⟩
 rcases turn i n σ3 H3 w3 with⟨stop,qn⟩|⟨go,N,hN,step⟩
 ·refine wpAny_passesOwn hp (thn (T.done X rfl rfl rfl hc i pins s3 σ3 H3 X.xe I3 (stat fr3) st3 stop) fun r s4 ⟨hr,I4⟩=>?_)
  subst hr
  exact wpAny_execs_nil ⟨σ3,H3,I4,qn⟩
 ·refine wpAny_passesOwn hp (thn (T.item X rfl rfl rfl hc i pins s3 σ3 H3 X.xe I3 (stat fr3) st3 go) fun r s4 ⟨u,hr,h4⟩=>?_)
  subst hr
  refine wpAny_passesOwn hp (thn h4 fun _ s5 ⟨x,H5,I5,r5,y5,st5,fr5⟩=>?_)
  have I5':=I5.pinned (stat fr5) (T.obj _ _ st5)
  refine wpAny_passesOwn hp (thn (hg _ s5 σ3 H5 x u _ I5' r5 (step x H5 y5)) fun _ s6 ⟨σ6,H6,I6,q6⟩=>?_)
  refine wpAny_passesOwn hp (thn (hb _ s6 σ6 H6 _ I6 q6) fun f s7 q7=>?_)
  have again: ∀{σ7:St} {H7:Hp},Inv X (pins++Dm fp s5.heap) σ7 H7 s7→N σ7 H7→∃m,m<n∧∃i σ' H',Inv X pins σ' H' s7∧tn i s7.heap∧(∀b∈fp,H' b=none)∧W i m σ' H':=fun{σ7 H7} I7 n7=>by
   obtain⟨m',hm,w7⟩:=hN σ7 H7 n7
   refine⟨m',hm,i+1,σ7,H7,I7.tX,T.keep _ _ _ st5 fun b hb o e=>(I7.pin (b,o) (List.mem_append_right _ (List.mem_append_right _ (wL hb e)))).1,fun b hb=>?_,w7⟩
   obtain⟨o,e,d⟩:=T.obj _ _ st5 b hb
   exact(I7.pin (b,o) (List.mem_append_right _ (List.mem_append_right _ (wL hb e)))).2.1
  cases f with
  |next=>obtain⟨σ7,H7,I7,n7⟩:=q7;exact again I7 n7
  |cont=>obtain⟨σ7,H7,I7,n7⟩:=q7;exact again I7 n7
  |brk=>obtain⟨σ7,H7,I7,q7⟩:=q7;exact⟨σ7,H7,I7.tX,q7⟩
  |ret v=>obtain⟨x7,σ7,H7,I7,r7,q7⟩:=q7;exact⟨x7,σ7,H7,I7.tX,r7,q7⟩
end
theorem gY{K:PySem.W.Frag}{a:Addr}{xs:List V}{g:TG}{tb:TS}{D:Ends}{σ:St}{H:Hp}(Pv:Nat→St→Hp→Prop)(h0:Pv 0 σ H)(hl: ∀i σ H,i≤xs.length→Pv i σ H→SqL K H a xs)
  (hs: ∀i x σ H,xs[i]?=some x→Pv i σ H→g x σ H fun σ2 H2=>tb {D with nx:=Pv (i+1),ct:=Pv (i+1),bk:=D.nx} σ2 H2) (hd: ∀σ H,Pv xs.length σ H→D.nx σ H):
  ∃W:Nat→Nat→St→Hp→Prop,(∃m,W 0 m σ H)∧∀i m σ H,W i m σ H→
   ((Itl K a).stop i H∧D.nx σ H)∨((Itl K a).go i H∧∃N:St→Hp→Prop,(∀σ' H',N σ' H'→∃m',m'<m∧W (i+1) m' σ' H')∧∀x H',(Itl K a).yld i H x H'→g x σ H' fun σ2 H2=>tb {D with nx:=N,ct:=N,bk:=D.nx} σ2 H2):=by
 refine⟨fun i m σ H=>m=xs.length - i∧i≤xs.length∧Pv i σ H,⟨xs.length,by simp,Nat.zero_le _,h0⟩,?_⟩
 rintro i m σ H ⟨rfl,hi,p⟩
 have q:=hl i σ H hi p
 by_cases hlt:i<xs.length
 ·refine .inr ⟨⟨xs,xs[i],q,by simp[hlt]⟩,Pv (i+1),fun σ' H' p'=>⟨xs.length - (i+1),by omega,rfl,hlt,p'⟩,fun x H' y=>?_⟩
  obtain⟨e,y⟩:=y
  subst e
  exact hs i x σ _ (y xs q) p
 ·have e:i=xs.length:=by omega
  subst e
  exact .inl ⟨⟨xs,q,Nat.le_refl _⟩,hd σ H p⟩
theorem vI{lo:Int}{n:Nat}{g:TG}{tb:TS}{D:Ends}{σ:St}{H:Hp}(Pv:Nat→St→Hp→Prop)(h0:Pv 0 σ H)
  (hs: ∀i σ H,i<n→Pv i σ H→g (.int (lo+i)) σ H fun σ2 H2=>tb {D with nx:=Pv (i+1),ct:=Pv (i+1),bk:=D.nx} σ2 H2) (hd: ∀σ H,Pv n σ H→D.nx σ H):
  ∃W:Nat→Nat→St→Hp→Prop,(∃m,W 0 m σ H)∧∀i m σ H,W i m σ H→
   ((Itr lo n).stop i H∧D.nx σ H)∨((Itr lo n).go i H∧∃N:St→Hp→Prop,(∀σ' H',N σ' H'→∃m',m'<m∧W (i+1) m' σ' H')∧∀x H',(Itr lo n).yld i H x H'→g x σ H' fun σ2 H2=>tb {D with nx:=N,ct:=N,bk:=D.nx} σ2 H2):=by
 refine⟨fun i m σ H=>m=n - i∧i≤n∧Pv i σ H,⟨n,by simp,Nat.zero_le _,h0⟩,?_⟩
 rintro i m σ H ⟨rfl,hi,p⟩
 by_cases hlt:i<n
 ·refine .inr ⟨hlt,Pv (i+1),fun σ' H' p'=>⟨n - (i+1),by omega,rfl,hlt,p'⟩,fun x H' y=>?_⟩
  obtain⟨e,y⟩:=y
  subst e y
  exact hs i σ _ hlt p
 ·have e:i=n:=by omega
  subst e
  exact .inl ⟨Nat.le_refl _,hd σ H p⟩
abbrev R2:=V→V→Hp→VK→Prop
def OpR(X:Cx)(f:Value→Value→Sem Value)(r:R2):Prop:=
 ∀(pins:List (Addr×Obj)) (s:Shared) (σ:St) (H:Hp) (x y:V) (v u:Value) (Q:VK),Inv X pins σ H s→RelV x v→RelV y u→r x y H Q→
  wpAny (model X.prog X.w) X.A (f v u) (EP X pins σ Q) X.xe s
def UnR(X:Cx)(f:Value→Sem Value)(r:V→Hp→VK→Prop):Prop:=
 ∀(pins:List (Addr×Obj)) (s:Shared) (σ:St) (H:Hp) (x:V) (v:Value) (Q:VK),Inv X pins σ H s→RelV x v→r x H Q→
  wpAny (model X.prog X.w) X.A (f v) (EP X pins σ Q) X.xe s
def Dn(X:Cx)(f:Value)(r:List V→Hp→VK→Prop):Prop:=
 ∀(pins:List (Addr×Obj)) (s:Shared) (σ:St) (H:Hp) (xs:List V) (us:List Value) (Q:VK),Inv X pins σ H s→Vals xs us→r xs H Q→
  wpAny (model X.prog X.w) X.A (call f us) (EP X pins σ Q) X.xe s
def tOp(r:R2)(ta tb:TE):TE:=fun σ H Q=>ta σ H fun x H1=>tb σ H1 fun y H2=>r x y H2 Q
def tUn(r:V→Hp→VK→Prop)(ta:TE):TE:=fun σ H Q=>ta σ H fun x H1=>r x H1 Q
def rI(C:Int→Int→Prop)(g:Int→Int→V):R2:=fun x y H Q=>∃i j,x= .int i∧y= .int j∧C i j∧Q (g i j) H
def rI0(g:Int→Int→V):R2:=fun x y H Q=>∃i j,x= .int i∧y= .int j∧Q (g i j) H
def rU(g:Int→V):V→Hp→VK→Prop:=fun x H Q=>∃i,x= .int i∧Q (g i) H
section
variable{X:Cx}{a b c:Expr}{ta tb tc:TE}{pos:Pos}
theorem Zq(ha:PE X a ta)(hb:PE X b tb){pins:List (Addr×Obj)}{s:Shared}{σ:St}{H:Hp}{R:V→V→Hp→Prop}(I:Inv X pins σ H s)
  (h:ta σ H fun x H1=>tb σ H1 fun y H2=>R x y H2) {Q:Value→Shared→Prop} {f:Value→Value→Sem Value}
  (hf: ∀v u s2 x y H2,Inv X pins σ H2 s2→RelV x v→RelV y u→R x y H2→wpAny (model X.prog X.w) X.A (f v u) Q X.xe s2):
  wpAny (model X.prog X.w) X.A (eval a X.env) (fun v s₁=>wpAny (model X.prog X.w) X.A (eval b X.env) (fun u s₂=>wpAny (model X.prog X.w) X.A (f v u) Q X.xe s₂) X.xe s₁) X.xe s:=by
 refine thn (ha pins s σ H _ I h) fun v s1 ⟨x,H1,I1,r1,q1⟩=>?_
 refine thn (hb pins s1 σ H1 _ I1 q1) fun u s2 ⟨y,H2,I2,r2,q2⟩=>?_
 exact hf v u s2 x y H2 I2 r1 r2 q2
theorem dF{op:Operator}{r:R2}(ho:OpR X (binaryOp op) r)(ha:PE X a ta)(hb:PE X b tb):PE X (.BinOp a op b pos) (tOp r ta tb):=by
 intro pins s σ H Q I h
 exact wpAny_BinOp (Zq ha hb I h fun v u s2 x y H2 I2 rx ry q=>ho pins s2 σ H2 x y v u Q I2 rx ry q)
theorem aaL{op:UnaryOp}{r:V→Hp→VK→Prop}(ho:UnR X (unaryOp op) r)(ha:PE X a ta):PE X (.UnaryOp op a pos) (tUn r ta):=by
 intro pins s σ H Q I h
 exact UnaryOp_ (thn (ha pins s σ H _ I h) fun v s1 ⟨x,H1,I1,r1,q1⟩=>ho pins s1 σ H1 x v Q I1 r1 q1)
theorem opI{f:Value→Value→Sem Value}{C:Int→Int→Prop}{g:Int→Int→Int}
  (rule: ∀(i j:Int) (t u:Tok) (s:Shared) (Q:Value→Shared→Prop) (E:Value→Shared→Prop),C i j→Q (.int (g i j) s.toks) {s with toks:=s.toks+1}→wpAny (model X.prog X.w) X.A (f (.int i t) (.int j u)) Q E s):
  OpR X f (rI C fun i j=> .int (g i j)):=by
 intro pins s σ H x y v u Q I rx ry h
 obtain⟨i,j,rfl,rfl,hc,q⟩:=h
 obtain⟨t,rfl⟩:=rx
 obtain⟨t',rfl⟩:=ry
 exact rule i j t t' s _ _ hc ⟨.int (g i j),H,I.tok _,⟨_,rfl⟩,q⟩
theorem Zr{f:Value→Value→Sem Value}{g:Int→Int→Int}
  (rule: ∀(i j:Int) (t u:Tok) (s:Shared) (Q:Value→Shared→Prop) (E:Value→Shared→Prop),Q (.int (g i j) s.toks) {s with toks:=s.toks+1}→wpAny (model X.prog X.w) X.A (f (.int i t) (.int j u)) Q E s):
  OpR X f (rI0 fun i j=> .int (g i j)):=by
 intro pins s σ H x y v u Q I rx ry h
 obtain⟨i,j,rfl,rfl,q⟩:=h
 obtain⟨t,rfl⟩:=rx
 obtain⟨t',rfl⟩:=ry
 exact rule i j t t' s _ _ ⟨.int (g i j),H,I.tok _,⟨_,rfl⟩,q⟩
theorem Xk{f:Value→Value→Sem Value}{g:Int→Int→Bool}
  (rule: ∀(i j:Int) (t u:Tok) (s:Shared) (Q:Value→Shared→Prop) (E:Value→Shared→Prop),Q (.bool (g i j)) s→wpAny (model X.prog X.w) X.A (f (.int i t) (.int j u)) Q E s):
  OpR X f (rI0 fun i j=> .bl (g i j)):=by
 intro pins s σ H x y v u Q I rx ry h
 obtain⟨i,j,rfl,rfl,q⟩:=h
 obtain⟨t,rfl⟩:=rx
 obtain⟨t',rfl⟩:=ry
 exact rule i j t t' s _ _ ⟨.bl (g i j),H,I,rfl,q⟩
def CDiv(i j:Int):Prop:=0<j∧j<1073741824
def CPow(i j:Int):Prop:=0≤j∧j≤1000000∧i.natAbs<2 ^ 64
def Xl(i j:Int):Prop:=(-(2 ^ 64)<i∧i<2 ^ 64)∨(-(2 ^ 64)<j∧j<2 ^ 64)
theorem Xl.ok{i j:Int}(h:Xl i j):IntMulOk i j:=by
 rcases h with⟨h1,h2⟩|⟨h1,h2⟩
 ·exact .of_left (intBits_le_64 h1 h2)
 ·exact .of_right (intBits_le_64 h1 h2)
theorem Jv:OpR X (binaryOp .Add) (rI0 fun i j=> .int (i+j)):=Zr fun _ _ _ _ _ _ _ q=>add_int q
theorem lK:OpR X (binaryOp .Sub) (rI0 fun i j=> .int (i - j)):=Zr fun _ _ _ _ _ _ _ q=>sub_int q
theorem Zt:OpR X (binaryOp .Mult) (rI Xl fun i j=> .int (i * j)):=opI fun _ _ _ _ _ _ _ hc q=>mul_int q hc.ok
theorem Xm:OpR X (binaryOp .FloorDiv) (rI CDiv fun i j=> .int (i / j)):=opI fun i j _ _ _ _ _ hc q=>by
 have h1:(0:Int)<j:=hc.1
 have h2:j<1073741824:=hc.2
 exact floordiv_int (by omega) (by rw[Int.fdiv_eq_ediv_of_nonneg i (by omega)];exact q) (.inl (PyProof.noPylong_small (by omega)))
theorem Vj:OpR X (binaryOp .LShift) (rI CPow fun i j=> .int (i * 2 ^ j.toNat)):=opI fun _ _ _ _ _ _ _ hc q=>lshift_int_small hc.1 hc.2.1 hc.2.2 q
theorem Zu:OpR X (binaryOp .BitAnd) (rI0 fun i j=> .int (Builtin.bitAnd i j)):=Zr fun _ _ _ _ _ _ _ q=>and_int q
theorem unI{f:Value→Sem Value}{g:Int→Int}
  (rule: ∀(i:Int) (t:Tok) (s:Shared) (Q:Value→Shared→Prop) (E:Value→Shared→Prop),Q (.int (g i) s.toks) {s with toks:=s.toks+1}→wpAny (model X.prog X.w) X.A (f (.int i t)) Q E s):
  UnR X f (rU fun i=> .int (g i)):=by
 intro pins s σ H x v Q I rx h
 obtain⟨i,rfl,q⟩:=h
 obtain⟨t,rfl⟩:=rx
 exact rule i t s _ _ ⟨.int (g i),H,I.tok _,⟨_,rfl⟩,q⟩
theorem Zv:UnR X (unaryOp .USub) (rU fun i=> .int (-i)):=unI fun _ _ _ _ _ q=>neg_int q
end
def scal:V→V→Bool
 | .non,.non=>true| .non,.int _=>true| .int _,.non=>true| .non,.bl _=>true| .bl _,.non=>true| .non,.str _=>true| .str _,.non=>true
 | .int _,.int _=>true| .bl _,.bl _=>true| .str _,.str _=>true| .byt _,.byt _=>true
 | .int _,.str _=>true| .str _,.int _=>true| .bl _,.str _=>true| .str _,.bl _=>true
 |_,_=>false
def rEq:R2:=fun x y H Q=>scal x y=true∧Q (.bl (decide (x=y))) H
def rNe:R2:=fun x y H Q=>scal x y=true∧Q (.bl (!decide (x=y))) H
theorem Rr{i j:Int}:decide (V.int i=V.int j)=(i==j):=by
 rw[Bool.eq_iff_iff]
 simp
theorem Vk{i j:Bool}:decide (V.bl i=V.bl j)=(i==j):=by
 rw[Bool.eq_iff_iff]
 simp
theorem Rt{i j:Str}:decide (V.str i=V.str j)=(i==j):=by
 rw[Bool.eq_iff_iff]
 simp
theorem Ru{i j:Array UInt8}:decide (V.byt i=V.byt j)=(i.toList==j.toList):=by
 rw[Bool.eq_iff_iff]
 cases i
 cases j
 simp
section
variable{X:Cx}{a b c:Expr}{ta tb tc:TE}{pos:Pos}
theorem cN{pins:List (Addr×Obj)}{σ:St}{H:Hp}{s:Shared}{Q:VK}{k k':Bool}(I:Inv X pins σ H s)(q:Q (.bl k) H)(e:k=k'):EP X pins σ Q (.bool k') s:=by
 subst e
 exact⟨.bl k,H,I,rfl,q⟩
theorem nU:OpR X (compareOp .Eq) rEq:=by
 intro pins s σ H x y v u Q I rx ry h
 obtain⟨hs,q⟩:=h
 cases x with
 |non=>
  cases rx
  cases y with
  |non=>cases ry;exact PySem.EqNone.eq_none_none (cN I q (by simp))
  |bl j=>cases ry;exact PySem.EqNone.eq_none_bool (cN I q (by simp))
  |int j=>obtain⟨t',rfl⟩:=ry;exact PySem.EqNone.eq_none_int (cN I q (by simp))
  |str j=>obtain⟨t',rfl⟩:=ry;exact PySem.EqNone.eq_none_str (cN I q (by simp))
  |_=>exact absurd (show false=true from hs) Bool.false_ne_true
 |bl i=>
  cases rx
  cases y with
  |non=>cases ry;exact PySem.EqNone.eq_bool_none (cN I q (by simp))
  |bl j=>cases ry;exact eq_bool (cN I q Vk)
  |str j=>obtain⟨t',rfl⟩:=ry;exact PySem.EqMixed.eq_bool_str (cN I q (by simp))
  |_=>exact absurd (show false=true from hs) Bool.false_ne_true
 |int i=>
  obtain⟨t,rfl⟩:=rx
  cases y with
  |non=>cases ry;exact PySem.EqNone.eq_int_none (cN I q (by simp))
  |int j=>obtain⟨t',rfl⟩:=ry;exact eq_int (cN I q Rr)
  |str j=>obtain⟨t',rfl⟩:=ry;exact PySem.EqMixed.eq_int_str (cN I q (by simp))
  |_=>exact absurd (show false=true from hs) Bool.false_ne_true
 |str i=>
  obtain⟨t,rfl⟩:=rx
  cases y with
  |non=>cases ry;exact PySem.EqNone.eq_str_none (cN I q (by simp))
  |bl j=>cases ry;exact PySem.EqMixed.eq_str_bool (cN I q (by simp))
  |int j=>obtain⟨t',rfl⟩:=ry;exact PySem.EqMixed.eq_str_int (cN I q (by simp))
  |str j=>obtain⟨t',rfl⟩:=ry;exact eq_str (cN I q Rt)
  |_=>exact absurd (show false=true from hs) Bool.false_ne_true
 |byt i=>
  obtain⟨t,rfl⟩:=rx
  cases y with
  |byt j=>obtain⟨t',rfl⟩:=ry;exact PySem.W.eq_bytes (cN I q Ru)
  |_=>exact absurd (show false=true from hs) Bool.false_ne_true
 |_=>cases y<;>exact absurd (show false=true from hs) Bool.false_ne_true
theorem Dq:OpR X (compareOp .NotEq) rNe:=by
 intro pins s σ H x y v u Q I rx ry h
 obtain⟨hs,q⟩:=h
 cases x with
 |non=>
  cases rx
  cases y with
  |non=>cases ry;exact PySem.EqNone.ne_none_none (cN I q (by simp))
  |bl j=>cases ry;exact PySem.EqNone.ne_none_bool (cN I q (by simp))
  |int j=>obtain⟨t',rfl⟩:=ry;exact PySem.EqNone.ne_none_int (cN I q (by simp))
  |str j=>obtain⟨t',rfl⟩:=ry;exact PySem.EqNone.ne_none_str (cN I q (by simp))
  |_=>exact absurd (show false=true from hs) Bool.false_ne_true
 |bl i=>
  cases rx
  cases y with
  |non=>cases ry;exact PySem.EqNone.ne_bool_none (cN I q (by simp))
  |bl j=>cases ry;exact ne_bool (cN I q (congrArg not Vk))
  |str j=>obtain⟨t',rfl⟩:=ry;exact PySem.EqMixed.ne_bool_str (cN I q (by simp))
  |_=>exact absurd (show false=true from hs) Bool.false_ne_true
 |int i=>
  obtain⟨t,rfl⟩:=rx
  cases y with
  |non=>cases ry;exact PySem.EqNone.ne_int_none (cN I q (by simp))
  |int j=>obtain⟨t',rfl⟩:=ry;exact ne_int (cN I q (congrArg not Rr))
  |str j=>obtain⟨t',rfl⟩:=ry;exact PySem.EqMixed.ne_int_str (cN I q (by simp))
  |_=>exact absurd (show false=true from hs) Bool.false_ne_true
 |str i=>
  obtain⟨t,rfl⟩:=rx
  cases y with
  |non=>cases ry;exact PySem.EqNone.ne_str_none (cN I q (by simp))
  |bl j=>cases ry;exact PySem.EqMixed.ne_str_bool (cN I q (by simp))
  |int j=>obtain⟨t',rfl⟩:=ry;exact PySem.EqMixed.ne_str_int (cN I q (by simp))
  |str j=>obtain⟨t',rfl⟩:=ry;exact ne_str (cN I q (congrArg not Rt))
  |_=>exact absurd (show false=true from hs) Bool.false_ne_true
 |byt i=>
  obtain⟨t,rfl⟩:=rx
  cases y with
  |byt j=>obtain⟨t',rfl⟩:=ry;exact PySem.W.ne_bytes (cN I q (congrArg not Ru))
  |_=>exact absurd (show false=true from hs) Bool.false_ne_true
 |_=>cases y<;>exact absurd (show false=true from hs) Bool.false_ne_true
theorem mW:OpR X (compareOp .Lt) (rI0 fun i j=> .bl (decide (i<j))):=Xk fun _ _ _ _ _ _ _ q=>lt_int q
theorem Dr:OpR X (compareOp .LtE) (rI0 fun i j=> .bl (decide (i≤j))):=Xk fun _ _ _ _ _ _ _ q=>le_int q
theorem tY:OpR X (compareOp .Gt) (rI0 fun i j=> .bl (decide (j<i))):=Xk fun _ _ _ _ _ _ _ q=>gt_int q
theorem Mr:OpR X (compareOp .GtE) (rI0 fun i j=> .bl (decide (j≤i))):=Xk fun _ _ _ _ _ _ _ q=>ge_int q
theorem zK:OpR X (compareOp .Is) (fun x y H Q=>y= .non∧Q (.bl (decide (x= .non))) H):=by
 intro pins s σ H x y v u Q I rx ry h
 obtain⟨rfl,q⟩:=h
 cases ry
 refine is_none_gen (cN I q ?_)
 cases x<;>first
  |(cases rx;rfl)
  |(obtain⟨t,rfl⟩:=rx;rfl)
theorem mD:OpR X (compareOp .IsNot) (fun x y H Q=>y= .non∧Q (.bl (!decide (x= .non))) H):=by
 intro pins s σ H x y v u Q I rx ry h
 obtain⟨rfl,q⟩:=h
 cases ry
 refine isnot_none_gen (cN I q ?_)
 cases x<;>first
  |(cases rx;rfl)
  |(obtain⟨t,rfl⟩:=rx;rfl)
theorem bx(b:Expr){op:CmpOp}(h:op≠ .In:=by decide)(h2:op≠ .NotIn:=by decide):behindInMarks op b=false:=by
 have e1:(op==CmpOp.In)=false:=by cases op<;>first|rfl|exact absurd rfl h
 have e2:(op==CmpOp.NotIn)=false:=by cases op<;>first|rfl|exact absurd rfl h2
 cases b<;>simp[behindInMarks,e1,e2]
theorem nW{op:CmpOp}{r:R2}(ho:OpR X (compareOp op) r)(ha:PE X a ta)(hb:PE X b tb)(hm:behindInMarks op b=false):PE X (.Compare a [op] [b] pos) (tOp r ta tb):=by
 intro pins s σ H Q I h
 exact wpAny_Compare1 (Zq ha hb I h fun v u s2 x y H2 I2 rx ry q=>ho pins s2 σ H2 x y v u Q I2 rx ry q) hm
def Vl(t:TE):TT:=fun σ H Q=>t σ H fun x H'=>∃k,x= .bl k∧Q k H'
theorem aY{op:CmpOp}{r:R2}(ho:OpR X (compareOp op) r)(ha:PE X a ta)(hb:PE X b tb)(hm:behindInMarks op b=false):PT X (.Compare a [op] [b] pos) (Vl (tOp r ta tb)):=by
 intro pins s σ H Q I h
 refine wpAny_isTrue_Compare1 (thn (ha pins s σ H _ I h) fun v s1 ⟨x,H1,I1,r1,q1⟩=>thn (hb pins s1 σ H1 _ I1 q1) fun u s2 ⟨y,H2,I2,r2,q2⟩=>
  thn (ho pins s2 σ H2 x y v u _ I2 r1 r2 q2) fun c s3 ⟨z,H3,I3,r3,k,e,q3⟩=>?_) hm
 subst e
 cases r3
 exact wpAny_truthy_bool ⟨H3,I3,q3⟩
def Zw(r r':R2)(ta tb tc:TE):TE:=fun σ H Q=>ta σ H fun x H1=>tb σ H1 fun y H2=>r x y H2 fun z H3=>∃k,z= .bl k∧
 (if k=true then tc σ H3 fun w' H4=>r' y w' H4 Q else Q (.bl false) H3)
theorem xZ{op op':CmpOp}{r r':R2}(ho:OpR X (compareOp op) r)(ho':OpR X (compareOp op') r')(ha:PE X a ta)(hb:PE X b tb)(hc:PE X c tc)
  (hm:lastMarks [op,op'] [b,c]=false:=by with_unfolding_all rfl):PE X (.Compare a [op,op'] [b,c] pos) (Zw r r' ta tb tc):=by
 intro pins s σ H Q I h
 refine Compare_chain (thn (ha pins s σ H _ I h) fun v s1 ⟨x,H1,I1,r1,q1⟩=>chain_link (thn (hb pins s1 σ H1 _ I1 q1) fun u s2 ⟨y,H2,I2,r2,q2⟩=>
  thn (ho pins s2 σ H2 x y v u _ I2 r1 r2 q2) fun d s3 ⟨z,H3,I3,r3,k,e,q3⟩=>?_)) hm
 subst e
 cases r3
 refine wpAny_truthy_bool ?_
 cases k with
 |false=>exact ite_ff ⟨.bl false,H3,I3,rfl,q3⟩
 |true=>exact ite_tt (chain_last (thn (hc pins s3 σ H3 _ I3 q3) fun w' s4 ⟨z',H4,I4,r4,q4⟩=>ho' pins s4 σ H4 y z' u w' Q I4 r2 r4 q4))
theorem Jw:(sizeLine:Nat)<2 ^ 63:=by rw[sizeLine_eq];decide
theorem vals1{x:V}{us:List Value}(r:Vals [x] us): ∃u,us=[u]∧RelV x u:=by
 cases r with
 |cons r1 r2=>cases r2;exact⟨_,rfl,r1⟩
end
structure PB(h:Heap)(x dx C:Addr)(mA:Str→Option Value):Prop where
 obj:h.get? x=some (PySem.W.instObj C dx)
 ns:h.Ns1 dx mA
 ne:dx≠x
theorem S5{h:Heap}{dx:Addr}{mA:Str→Option Value}(n:h.Ns1 dx mA): ∃od,h.get? dx=some od∧∀name,PySem.W.lookIn name od=some (mA name):=by
 obtain⟨o,es,ep,ho,hd,hk,_,hm⟩:=n
 refine⟨o,ho,fun name=>?_⟩
 have e:=hm name
 unfold nsFind findBy at e
 rw[←Array.find?_toList] at e
 unfold PySem.W.lookIn
 rw[hd]
 dsimp only
 split
 ·rename_i y q
  rw[q] at e
  exact congrArg some e
 ·rename_i q
  rw[q] at e
  have a:es.toList.any (·.refKey)=false:=by
   rw[List.any_eq_false]
   intro y hy
   obtain⟨z,t,hkey⟩:=hk y (Array.mem_toList_iff.mp hy)
   simp[DictEntry.refKey,hkey]
  have a': ¬es.toList.any (·.refKey)=true:=by rw[a];exact Bool.false_ne_true
  rw[if_neg a']
  exact congrArg some e
theorem PB.look{h:Heap}{x dx C:Addr}{mA:Str→Option Value}(I:PB h x dx C mA): ∃od,PySem.W.InstAt h x (PySem.W.instObj C dx) C (some od)∧∀name,PySem.W.lookIn name od=some (mA name):=
 let ⟨od,ho,hl⟩:=S5 I.ns
 ⟨od,⟨I.obj,rfl,rfl,ho⟩,hl⟩
section
variable{prog:Program}{w:World}{A:Around}{E:Value→Shared→Prop}{s:Shared}{K:PySem.W.Frag}{x dx C f:Addr}{mA:Str→Option Value}{name:Str}{v:Value}
theorem get_map{expr:Bool}{Q:Value→Shared→Prop}(X:K.In s.heap)(I:PB s.heap x dx C mA)(hg:PySem.W.plainGet K C name=true)(hh:PySem.W.hasDictIn K C=true)
  (ha:PySem.W.findIn K (.ref C) name=some none) (hv:mA name=some v) (hv':PySem.W.handedIn v=true) (h:Q v {s with toks:=s.toks+1}):
  wpAny (model prog w) A (getAttr (.ref x) name expr) Q E s:=by
 obtain⟨od,J,hl⟩:=I.look
 exact PySem.W.get_value X J (PySem.W.plainGet_of hg).1 (PySem.W.findObj_own hh ha rfl (by rw[hl,hv])) hv' h
theorem Vm{pl:Sem Bool}{Q:Value×List Value→Shared→Prop}(X:K.In s.heap)(I:PB s.heap x dx C mA)(hg:PySem.W.plainGet K C name=true)
  (hf:PySem.W.findIn K (.ref C) name=some (some (.ref f))) (ht:PySem.W.isFn K (.ref f)=true) (hv:mA name=none) (h:Q (.ref f,[.ref x]) s):
  wpAny (model prog w) A (getMethod (.ref x) name pl) Q E s:=by
 obtain⟨od,J,hl⟩:=I.look
 exact PySem.W.method_fn X J (PySem.W.plainGet_of hg).1 (PySem.W.plainGet_of hg).2 hf (beq_iff_eq.mp ht) (by show(PySem.W.lookIn name od).map (·.isSome)=some false;rw[hl,hv];rfl) h
theorem Xn{ns:List Str}{Q:Unit→Shared→Prop}(X:K.In s.heap)(I:PB s.heap x dx C mA)
  (hs:PySem.W.findIn K (.ref C) "__setattr__"=some (some (.builtin "object.__setattr__"))) (hp:PySem.W.plainOver K C=true) (ht:PySem.W.takerIn K C name=some none) (hh:PySem.W.hasDictIn K C=true)
  (hw:PySem.Within mA ns) (hsz:ns.length≤sizeLine)
  (h: ∀h',PB h' x dx C (fun y=>if y=name then some v else mA y)→Heap.SameBut dx s.heap h'→Q () {s with heap:=h',toks:=s.toks+2}):
  wpAny (model prog w) A (setAttr (.ref x) name v) Q E s:=by
 obtain⟨od,J,hl⟩:=I.look
 refine PySem.W.set_plain X J hs (PySem.W.osa_open (s:={s with toks:=s.toks+1}) (r:=none) X J hp ht fun b=>?_)
 obtain⟨cd,hc,hd'⟩:=PySem.W.any_some hh
 have hx:s.heap.get? x=some ⟨.ref C,some dx,.plain,#[]⟩:=I.obj
 refine wpAny_bind (wpAny_pure (wpAny_bind (wpAny_bind (wpAny_loadPart hx (wpAny_bind (PySem.W.Looks.here (s:={s with toks:=s.toks+1}) (PySem.W.looks_clsIn X hc) ?_))))))
 rw[hd']
 refine wpAny_pure (a:=some dx) (wpAny_bind (wpAny_pure (wpAny_bind ?_)))
 refine wpAny_nsSet1 (s:={s with toks:=s.toks+1}) I.ns fun h' hn2 hs2=>?_
 obtain⟨oD,esD,epD,hoD,hdD,hcD⟩:=hn2.count (PySem.Within.cons name v hw)
 refine wpAny_bind (wpAny_lookBehind hoD (by rw[hdD];exact pastItsLine_dict (Nat.le_trans hcD (by rw[List.length_cons];omega))) ?_)
 exact wpAny_pure (h _ ⟨(hs2.2 _ (Ne.symm I.ne)).trans I.obj,hn2,I.ne⟩ hs2)
theorem Vn{R:Result→Shared→Prop}{vs:List Value}{kw:List (Str×Value)}(X:K.In s.heap)(hm:PySem.W.makesIn K C=true)
  (hi:PySem.W.findIn K (.ref C) "__init__"=some (some (.ref f))) (hf:PySem.W.typeIn K (.ref f)=some (.type "function"))
  (h:codeAny (model prog w) (A.under (.builtin "type.__call__" ⟨.ref C::vs,kw⟩)) (.call (.ref f) ⟨.ref (s.heap.objs.size+1)::vs,kw⟩) (PySem.W.InitBack (s.heap.objs.size+1) R)
   {s with heap:=(s.heap.push PySem.W.emptyDict).push (PySem.W.instObj C s.heap.objs.size)}):
  codeAny (model prog w) A (.call (.ref C) ⟨vs,kw⟩) R s:=by
 obtain⟨hh,g,d,t,os⟩:=s
 exact PySem.W.make_core (PySem.W.makes_of X hm) (PySem.W.looks_findIn X hi) (fun self=>PySem.W.bind_fn X self hf) (.inl rfl) h
end
def iY(f:Str)(v:V):List (Str×V)→List (Str×V)
 |[]=>[(f,v)]
 |(g,x)::r=>if g=f then(g,v)::r else(g,x)::iY f v r
theorem Bt(f g:Str)(v:V): ∀fs:List (Str×V),(iY f v fs).lookup g=if g=f then some v else fs.lookup g
 |[]=>by
  show List.lookup g [(f,v)]=_
  by_cases h:g=f
  ·have hb:(g==f)=true:=beq_iff_eq.mpr h
   simp only[List.lookup,hb,if_pos h]
  ·have hb:(g==f)=false:=beq_eq_false_iff_ne.mpr h
   simp only[List.lookup,hb,if_neg h]
 |(k,x)::r=>by
  have ih:=Bt f g v r
  rw[show iY f v ((k,x)::r)=(if k=f then(k,v)::r else(k,x)::iY f v r) from rfl]
  by_cases hk:k=f
  ·rw[if_pos hk]
   by_cases h:g=k
   ·have hb:(g==k)=true:=beq_iff_eq.mpr h
    simp only[List.lookup,hb,if_pos (h.trans hk)]
   ·have hb:(g==k)=false:=beq_eq_false_iff_ne.mpr h
    simp only[List.lookup,hb,if_neg (fun e:g=f=>h (e.trans hk.symm))]
  ·rw[if_neg hk]
   by_cases h:g=k
   ·have hb:(g==k)=true:=beq_iff_eq.mpr h
    simp only[List.lookup,hb,if_neg (fun e:g=f=>hk (h.symm.trans e))]
   ·have hb:(g==k)=false:=beq_eq_false_iff_ne.mpr h
    simp only[List.lookup,hb]
    exact ih
theorem zL(f:Str)(v:V): ∀fs:List (Str×V),f∈(iY f v fs).map (·.1)∧∀g,g∈fs.map (·.1)→g∈(iY f v fs).map (·.1)
 |[]=>⟨by simp[iY],fun g h=>by simp at h⟩
 |(k,x)::r=>by
  obtain⟨i1,i2⟩:=zL f v r
  rw[show iY f v ((k,x)::r)=(if k=f then(k,v)::r else(k,x)::iY f v r) from rfl]
  by_cases hk:k=f
  ·rw[if_pos hk]
   subst hk
   exact⟨by simp,fun g h=>by simpa using h⟩
  ·rw[if_neg hk]
   refine⟨?_,fun g h=>?_⟩
   ·rw[List.map_cons]
    exact List.mem_cons_of_mem _ i1
   ·rw[List.map_cons] at h⊢
    rcases List.mem_cons.mp h with e|e
    ·exact List.mem_cons.mpr (.inl e)
    ·exact List.mem_cons_of_mem _ (i2 g e)
theorem lB(f:Str)(v:V): ∀fs:List (Str×V),(iY f v fs).length≤fs.length+1
 |[]=>by simp[iY]
 |(k,x)::r=>by
  have ih:=lB f v r
  rw[show iY f v ((k,x)::r)=(if k=f then(k,v)::r else(k,x)::iY f v r) from rfl]
  by_cases hk:k=f
  ·rw[if_pos hk,List.length_cons,List.length_cons];omega
  ·rw[if_neg hk,List.length_cons,List.length_cons];omega
theorem tR.some_of{v:V}{o:Option Value}(r:tR (some v) o): ∃u,o=some u∧RelV v u:=by
 cases o with
 |none=>exact(show False from r).elim
 |some u=>exact⟨u,rfl,r⟩
theorem tR.none_of{o:Option Value}(r:tR none o):o=none:=by
 cases o with
 |none=>rfl
 |some u=>exact(show False from r).elim
theorem S6{v:V}{u:Value}(r:RelV v u):PySem.W.handedIn u=true:=by
 cases v with
 |non=>cases (show u=Value.none from r);rfl
 |bl b=>cases (show u=Value.bool b from r);rfl
 |int i=>obtain⟨t,e⟩:=(show∃t,u=Value.int i t from r);cases e;rfl
 |str x=>obtain⟨t,e⟩:=(show∃t,u=Value.str x t from r);cases e;rfl
 |byt b=>obtain⟨t,e⟩:=(show∃t,u=Value.bytes b t from r);cases e;rfl
 |flt b=>obtain⟨t,e⟩:=(show∃t,u=Value.float b t from r);cases e;rfl
 |ref a=>cases (show u=Value.ref a from r);rfl
 |ty n=>cases (show u=Value.type n from r);rfl
section
variable{P:Program}{w:World}{H H':Hp}{h h':Heap}{a C dx:Addr}{fs fs':List (Str×V)}
theorem Jx(hok:HOk P w H h)(e:H a=some (.ins C dx fs)): ∃mA,PB h a dx C mA∧(∀f,tR (fs.lookup f) (mA f))∧PySem.Within mA (fs.map (·.1))∧fs.length≤1000∧H dx=some (.own a):=by
 obtain⟨d,z,ne,ob,mA,n,r,q⟩:=(show fP P w H h a (.ins C dx fs) from hok a _ e)
 exact⟨mA,⟨ob,n,ne⟩,r,q,z,d⟩
end
structure Cls(K:PySem.W.Frag)(C:Addr):Prop where
 pg:PySem.W.plainGet K C Str.empty=true
 hd:PySem.W.hasDictIn K C=true
 po:PySem.W.plainOver K C=true
 sa:PySem.W.findIn K (.ref C) "__setattr__"=some (some (.builtin "object.__setattr__"))
theorem Cls.get{K:PySem.W.Frag}{C:Addr}(c:Cls K C)(f:Str):PySem.W.plainGet K C f=true:=c.pg
def dh(K:PySem.W.Frag)(C:Addr)(f:Str):Prop:=PySem.W.findIn K (.ref C) f=some none
theorem dh.taker{K:PySem.W.Frag}{C:Addr}{f:Str}(n:dh K C f):PySem.W.takerIn K C f=some none:=by
 unfold PySem.W.takerIn
 rw[show PySem.W.findIn K (.ref C) f=some none from n]
 rfl
structure Meth(K:PySem.W.Frag)(C:Addr)(m:Str)(f:Addr):Prop where
 at_:PySem.W.findIn K (.ref C) m=some (some (.ref f))
 fn:PySem.W.isFn K (.ref f)=true
 kp:PySem.W.keepIn K (.ref f)=true
section
variable{X:Cx}{pins:List (Addr×Obj)}{σ:St}{H:Hp}{s:Shared}{a C dx:Addr}{fs:List (Str×V)}{f:Str}{v:V}{A:Around}{E:Value→Shared→Prop}
theorem Ds{b:Bool}{Q:Value→Shared→Prop}(I:Inv X pins σ H s)(e:H a=some (.ins C dx fs))(c:Cls X.K C)(n:dh X.K C f)(l:fs.lookup f=some v)
  (h: ∀u s',Inv X pins σ H s'→RelV v u→Q u s'):wpAny (model X.prog X.w) A (getAttr (.ref a) f b) Q E s:=by
 obtain⟨mA,O,r,_,_,_⟩:=Jx I.hok e
 obtain⟨u,hu,ru⟩:=tR.some_of (v:=v) (o:=mA f) (by rw[←l];exact r f)
 exact get_map I.kIn O (c.get f) c.hd n hu (S6 ru) (h u _ (I.tok _) ru)
theorem Dt{m:Str}{g:Addr}{pl:Sem Bool}{Q:Value×List Value→Shared→Prop}(I:Inv X pins σ H s)(e:H a=some (.ins C dx fs))(c:Cls X.K C)(k:Meth X.K C m g)(l:fs.lookup m=none)
  (h:Q (.ref g,[.ref a]) s):wpAny (model X.prog X.w) A (getMethod (.ref a) m pl) Q E s:=by
 obtain⟨mA,O,r,_,_,_⟩:=Jx I.hok e
 have hn:mA m=none:=tR.none_of (by rw[←l];exact r m)
 exact Vm I.kIn O (c.get m) k.at_ k.fn hn h
theorem Du{y:V}{u:Value}{Q:Unit→Shared→Prop}(I:Inv X pins σ H s)(e:H a=some (.ins C dx fs))(c:Cls X.K C)(n:dh X.K C f)(hl:fs.length<1000)(ry:RelV y u)
  (h: ∀s',Inv X pins σ (upd H a (.ins C dx (iY f y fs))) s'→Q () s'):wpAny (model X.prog X.w) A (setAttr (.ref a) f u) Q E s:=by
 obtain⟨mA,O,r,wi,_,ho⟩:=Jx I.hok e
 have hz:(fs.map (·.1)).length≤sizeLine:=by rw[List.length_map,sizeLine_eq];omega
 refine Xn I.kIn O c.sa c.po n.taker c.hd wi hz fun h' O' sb=>h _ ?_
 have hd: ∃o,h'.get? dx=some o:=let ⟨o,_,_,e',_⟩:=O'.ns;⟨o,e'⟩
 refine I.write (x:=a) (e:=dx) (by rw[e];exact True.intro) (.inr ho) (fun b q hb z=>(sb.2 b hb).trans z) hd ?_
 refine⟨by rw[aJ O.ne];exact ho,?_,O.ne,O'.obj,_,O'.ns,fun g=>?_,fun g hg=>?_⟩
 ·have:=lB f y fs;omega
 ·show tR ((iY f y fs).lookup g) (if g=f then some u else mA g)
  rw[Bt]
  by_cases q:g=f
  ·rw[if_pos q,if_pos q];exact ry
  ·rw[if_neg q,if_neg q];exact r g
 ·by_cases q:g=f
  ·rw[q];exact(zL f y fs).1
  ·refine(zL f y fs).2 g (wi g fun z=>hg ?_)
   show(if g=f then some u else mA g)=none
   rw[if_neg q];exact z
theorem Inv.made(I:Inv X pins σ H s):Inv X pins σ (upd (upd H s.heap.objs.size (.own (s.heap.objs.size+1))) (s.heap.objs.size+1) (.ins C s.heap.objs.size []))
  {s with heap:=(s.heap.push PySem.W.emptyDict).push (PySem.W.instObj C s.heap.objs.size)}:=by
 have e1:(s.heap.push PySem.W.emptyDict).get? s.heap.objs.size=some PySem.W.emptyDict:=Heap.get?_push_size s.heap rfl
 have e2:((s.heap.push PySem.W.emptyDict).push (PySem.W.instObj C s.heap.objs.size)).get? (s.heap.objs.size+1)=some (PySem.W.instObj C s.heap.objs.size):=by
  have:=Heap.get?_push_size (s.heap.push PySem.W.emptyDict) (o:=PySem.W.instObj C s.heap.objs.size) rfl
  rwa [Heap.size_push] at this
 have e3:(s.heap.push PySem.W.emptyDict).Ns s.heap.objs.size (fun _=>none):=⟨PySem.W.emptyDict,#[],_,e1,rfl,(fun e he=>absurd he (by simp)),fun _=>rfl⟩
 have I1:=I.laid (a:=s.heap.objs.size) (o:= .own (s.heap.objs.size+1)) (h':=s.heap.push PySem.W.emptyDict) (t':=s.toks) (fun b u q=>Heap.get?_push_of_some _ q) (Nat.le_refl _) ⟨_,e1⟩
 refine I1.laid (a:=s.heap.objs.size+1) (o:= .ins C s.heap.objs.size []) (t':=s.toks) (fun b u q=>Heap.get?_push_of_some _ q) (Nat.le_of_eq (Heap.size_push _ _)) ?_
 have ne:s.heap.objs.size≠s.heap.objs.size+1:=Nat.ne_of_lt (Nat.lt_succ_self _)
 refine⟨by rw[aJ ne,aA],Nat.zero_le _,ne,e2,fun _=>none,(Heap.Ns1.of_empty e3).at fun o q=>Heap.get?_push_of_some _ q,fun _=>True.intro,fun y hy=>absurd rfl hy⟩
theorem Xo{prog:Program}{w:World}{env:Env}{e:Expr}{f:Str}{pos:Pos}{s:Shared}{Q:Value→Shared→Prop}(hb:attributeBase e f env (eval e env)=eval e env)
  (h:wpAny (model prog w) A (eval e env) (fun o s₁=>wpAny (model prog w) A (getAttr o f true) Q E s₁) E s):wpAny (model prog w) A (eval (.Attribute e f pos) env) Q E s:=
 Attribute_any_ h (by rw[arm_eval_Attribute,hb])
end
def Ms(K:PySem.W.Frag)(ta:TE)(f:Str):TE:=fun σ H Q=>ta σ H fun x H1=>∃a C dx fs v,x= .ref a∧H1 a=some (.ins C dx fs)∧Cls K C∧dh K C f∧fs.lookup f=some v∧Q v H1
def sFld(K:PySem.W.Frag)(ta tv:TE)(f:Str):TS:=fun D σ H=>tv σ H fun y H1=>ta σ H1 fun x H2=>∃a C dx fs,x= .ref a∧H2 a=some (.ins C dx fs)∧Cls K C∧dh K C f∧fs.length<1000∧
 D.nx σ (upd H2 a (.ins C dx (iY f y fs)))
def InOp(X:Cx)(op:Operator)(rd:V→V→Hp→VK→Prop):Prop:=
 ∀(pins:List (Addr×Obj)) (s:Shared) (σ:St) (H:Hp) (x y:V) (u v:Value) (Q:VK),Inv X pins σ H s→RelV x u→RelV y v→rd x y H Q→wpAny (model X.prog X.w) X.A (inplaceOp op u v) (EP X pins σ Q) X.xe s
def Xp(K:PySem.W.Frag)(ta tv:TE)(rd:V→V→Hp→VK→Prop)(f:Str):TS:=fun D σ H=>ta σ H fun x H1=>∃a C dx fs v,x= .ref a∧H1 a=some (.ins C dx fs)∧Cls K C∧dh K C f∧fs.lookup f=some v∧
 tv σ H1 fun y H2=>rd v y H2 fun z H3=>∃dx' fs',H3 a=some (.ins C dx' fs')∧fs'.length<1000∧D.nx σ (upd H3 a (.ins C dx' (iY f z fs')))
section
variable{X:Cx}{o e value:Expr}{f:Str}{pos pos' tpos:Pos}{ta tv:TE}
theorem aW(he:PE X e ta)(hb:attributeBase e f X.env (eval e X.env)=eval e X.env):PE X (.Attribute e f pos) (Ms X.K ta f):=by
 intro pins s σ H Q I h
 refine Xo hb (thn (he pins s σ H _ I h) fun u s1 ⟨x,H1,I1,rx,a,C,dx,fs,v,ex,ea,c,n,l,q⟩=>?_)
 subst ex
 obtain rfl:u=Value.ref a:=rx
 exact Ds I1 ea c n l fun u' s2 I2 ru=>⟨v,H1,I2,ru,q⟩
theorem dX(ha:PE X o ta)(hv:PE X value tv)(hs:swapsWith value (some (.Attribute o f pos')) pos.line X.env=pure false):PS X (.Assign [.Attribute o f pos'] value pos) (sFld X.K ta tv f):=by
 intro pins s σ H D I h
 refine plainObj_wpAny_Assign_Attribute (thn (hv pins s σ H _ I h) fun u s1 ⟨y,H1,I1,ry,q⟩=>thn (ha pins s1 σ H1 _ I1 q) fun ov s2 ⟨x,H2,I2,rx,a,C,dx,fs,ex,ea,c,n,l,q2⟩=>?_) hs
 subst ex
 obtain rfl:ov=Value.ref a:=rx
 exact Du I2 ea c n l ry fun s3 I3=>⟨σ,_,I3,q2⟩
theorem HW{op:Operator}{rd:V→V→Hp→VK→Prop}(ha:PE X o ta)(hv:PE X value tv)(hop:InOp X op rd):PS X (.AugAssign (.Attribute o f tpos) op value pos) (Xp X.K ta tv rd f):=by
 intro pins s σ H D I h
 refine wpAny_AugAssign_AttributeAny (thn (ha pins s σ H _ I h) fun ov s1 ⟨x,H1,I1,rx,a,C,dx,fs,v,ex,ea,c,n,l,q⟩=>?_)
 subst ex
 obtain rfl:ov=Value.ref a:=rx
 refine Ds I1 ea c n l fun u s2 I2 ru=>thn (hv pins s2 σ H1 _ I2 q) fun w3 s3 ⟨y,H2,I3,ry,q3⟩=>thn (hop pins s3 σ H2 v y u w3 _ I3 ru ry q3) fun w4 s4 ⟨z,H3,I4,rz,dx',fs',ea',l',q4⟩=>?_
 exact Du I4 ea' c n l' rz fun s5 I5=>⟨σ,_,I5,q4⟩
def rAdd:V→V→Hp→VK→Prop:=fun x y H Q=>∃i j,x= .int i∧y= .int j∧Q (.int (i+j)) H
theorem Vo:InOp X .Add rAdd:=by
 rintro pins s σ H x y u v Q I rx ry ⟨i,j,rfl,rfl,q⟩
 obtain⟨t,rfl⟩:=(show∃t,u=Value.int i t from rx)
 obtain⟨t',rfl⟩:=(show∃t',v=Value.int j t' from ry)
 exact PyProof.Rows.iadd_int ⟨.int (i+j),H,I.tok _,⟨_,rfl⟩,q⟩
end
section
variable{X:Cx}{pins:List (Addr×Obj)}{σ:St}{H:Hp}{s:Shared}{A:Around}{E:Value→Shared→Prop}{Q:Value→Shared→Prop}{c:Value}{b:Bool}
end
structure gw(k:Nat)(A:Around):Prop where
 hd:A.handled=none
 dp:A.depth+3 * k+5<recursionLimit
 un:A.units+16 * k+200<cLine
theorem gw.mono{j k:Nat}{A:Around}(r:gw k A)(h:j≤k):gw j A:=⟨r.hd,by have:=r.dp;omega,by have:=r.un;omega⟩
theorem gw.deeper{k:Nat}{A:Around}(r:gw (k+1) A)(env:Env):gw k (A.deeper env):=
 ⟨r.hd,by have:=r.dp;show A.depth+1+3 * k+5<_;omega,by have:=r.un;show A.units+3+16 * k+200<_;omega⟩
theorem gw.in1{k:Nat}{A:Around}(r:gw (k+1) A):gw k A.in1:=
 ⟨r.hd,by have:=r.dp;show A.depth+3 * k+5<_;omega,by have:=r.un;show A.units+1+16 * k+200<_;omega⟩
theorem PJ{A:Around}{C:Addr}{us:List Value}{kw:List (Str×Value)}:(A.under (.builtin "type.__call__" ⟨.ref C::us,kw⟩)).depth=A.depth+1:=by
 first|rfl|simp[Around.under,Code.weight,Code.isCreation,Code.isGuard,Code.isCaller,Code.frames,Code.isFrame,guardIds]
theorem PK{A:Around}{C:Addr}{us:List Value}{kw:List (Str×Value)}:(A.under (.builtin "type.__call__" ⟨.ref C::us,kw⟩)).units=A.units+1:=by
 first|rfl|simp[Around.under,Code.cUnits,Code.frames,Code.isFrame]
theorem gw.make{k:Nat}{A:Around}(r:gw (k+1) A)(C:Addr)(us:List Value)(kw:List (Str×Value)):gw k (A.under (.builtin "type.__call__" ⟨.ref C::us,kw⟩)):=
 ⟨r.hd,by have:=r.dp;rw[PJ];omega,by have:=r.un;rw[PK];omega⟩
theorem gw.depth{k:Nat}{A:Around}(r:gw k A):A.depth<recursionLimit:=by have:=r.dp;omega
theorem gw.units{k:Nat}{A:Around}(r:gw k A):A.units+64<cLine:=by have:=r.un;omega
def lC:TA:=fun _ H Q=>Q [] H
def gQ(ta:TE)(tr:TA):TA:=fun σ H Q=>ta σ H fun x H1=>tr σ H1 fun xs H2=>Q (x::xs) H2
section
variable{X:Cx}{e:Expr}{es:List Expr}{te:TE}{t:TA}{pos:Pos}
theorem aC:PA X [] lC:=fun _ _ _ _ H Q I h=>Calls.spliced_nil ⟨[],H,I,.nil,h⟩
theorem ak(ha:PE X e te)(hr:PA X es t)(hs:starEach (e::es) X.env=(false,eval e X.env)::starEach es X.env:=by rfl):PA X (e::es) (gQ te t):=by
 intro pos pins s σ H Q I h
 rw[hs]
 show wpAny _ _ (spliced ((false,eval e X.env)::backTo pos (starEach es X.env))) _ _ s
 refine Calls.spliced_cons (thn (ha pins s σ H _ I h) fun u s1 ⟨x,H1,I1,r1,q1⟩=>?_)
 exact thn (hr pos pins s1 σ H1 _ I1 q1) fun us s2 ⟨xs,H2,I2,r2,q2⟩=>⟨x::xs,H2,I2,.cons r1 r2,q2⟩
def tTup(t:TA):TE:=fun σ H Q=>t σ H fun xs H1=>xs.length≤sizeLine∧∀p,H1 p=none→Q (.ref p) (upd H1 p (.tup xs))
def Xq(t:TA):TE:=fun σ H Q=>t σ H fun xs H1=>xs.length≤sizeLine∧∀p,H1 p=none→Q (.ref p) (upd H1 p (.lst xs))
theorem PL{x1}(h:PA X es t):PE X (.Tuple es x1 pos) (tTup t):=by
 intro pins s σ H Q I hq
 refine wpAny_Tuple_spliced (thn (h pos pins s σ H _ I hq) fun us s1 ⟨xs,H1,I1,r,z,q⟩=>⟨by rw[←r.length];exact z,?_⟩)
 have hf:H1 s1.heap.objs.size=none:=I1.hok.fresh (Nat.le_refl _)
 refine⟨.ref s1.heap.objs.size,upd H1 s1.heap.objs.size (.tup xs),I1.laid (t':=s1.toks) (fun b u e=>Heap.get?_push_of_some _ e) (Nat.le_refl _) ?_,rfl,q _ hf⟩
 exact⟨z,us,r,⟨_,Heap.get?_push_size _ rfl,rfl,_,rfl⟩⟩
theorem bG(h:PA X es t):PE X (.List es pos) (Xq t):=by
 intro pins s σ H Q I hq
 refine wpAny_List_spliced (thn (h pos pins s σ H _ I hq) fun us s1 ⟨xs,H1,I1,r,z,q⟩=>⟨by rw[←r.length];exact z,?_⟩)
 have hf:H1 s1.heap.objs.size=none:=I1.hok.fresh (Nat.le_refl _)
 refine⟨.ref s1.heap.objs.size,upd H1 s1.heap.objs.size (.lst xs),I1.laid (t':=s1.toks) (fun b u e=>Heap.get?_push_of_some _ e) (Nat.le_refl _) ?_,rfl,q _ hf⟩
 exact⟨z,us,0,r,Heap.get?_push_size _ rfl⟩
end
abbrev Sp:=List V→Hp→VK→XK→Prop
abbrev CXT:=List Env→Hp→Shared→XK→Value→Shared→Prop
structure PN(P:Program)(w:World)(K:PySem.W.Frag)(mg:Str→Option Value)(base:Heap)(A:Around)(outer:List Env)(s:Shared)(H:Hp):Prop where
 frames:A.frames=some outer
 mod:Mod K mg base
 bs: ∀b o,base.get? b=some o→s.heap.get? b=some o∧H b=none
 bsz:base.objs.size≤s.heap.objs.size
 BP:s.heap.FunFrames base outer
 frf: ∀b∈frs outer,H b=none
 hok:HOk P w H s.heap
 bare:AllBare s.gens
def CE(outer:List Env)(P:Program)(w:World)(H:Hp)(s:Shared)(Q:VK)(u:Value)(s':Shared):Prop:=
 ∃v H',s'.os=s.os∧AllBare s'.gens∧Un (frs outer) [] H H' s.heap s'.heap∧HOk P w H' s'.heap∧RelV v u∧Q v H'
def CR(CX:CXT)(outer:List Env)(P:Program)(w:World)(H:Hp)(s:Shared)(Q:VK)(E:XK)(r:Result)(s':Shared):Prop:=
 match r with
 | .ok (.ret u)=>CE outer P w H s Q u s'
 | .ok _=>False
 | .error e=>CX outer H s E e s'
structure bJ(P:Program)(w:World)(K:PySem.W.Frag)(mg:Str→Option Value)(base:Heap)(CX:CXT)(k:Nat)(f:Addr)(fd:FuncData)(ps:List Str)(sp:Sp):Prop where
 len: ∀vs H Q E,sp vs H Q E→vs.length=ps.length
 run: ∀(A:Around) (outer:List Env) (s:Shared) (H:Hp) (args:Args) (us:List Value) (vs:List V) (Q:VK) (E:XK),gw k A→PN P w K mg base A outer s H→BindsTo s fd args (ps.zip us)→Vals vs us→sp vs H Q E→
  codeAny (model P w) A (.call (.ref f) args) (CR CX outer P w H s Q E) s
theorem bJ.mono{P:Program}{w:World}{K:PySem.W.Frag}{mg:Str→Option Value}{base:Heap}{CX:CXT}{j k:Nat}{f:Addr}{fd:FuncData}{ps:List Str}{sp:Sp}(F:bJ P w K mg base CX j f fd ps sp)(h:j≤k):
  bJ P w K mg base CX k f fd ps sp:=⟨F.len,fun A outer s H args us vs Q E hr=>F.run A outer s H args us vs Q E (hr.mono h)⟩
theorem PN.make{P:Program}{w:World}{K:PySem.W.Frag}{mg:Str→Option Value}{base:Heap}{A:Around}{outer:List Env}{s:Shared}{H:Hp}(e:PN P w K mg base A outer s H)(C:Addr)(us:List Value)(kw:List (Str×Value)):
  PN P w K mg base (A.under (.builtin "type.__call__" ⟨.ref C::us,kw⟩)) outer s H:=⟨by first|exact e.frames|(simpa [Around.under,Code.envs,Code.isFrame,pushEnvs] using e.frames),e.mod,e.bs,e.bsz,e.BP,e.frf,e.hok,e.bare⟩
section
variable{X:Cx}{pins:List (Addr×Obj)}{σ:St}{H:Hp}{s s':Shared}
theorem Inv.env0(I:Inv X pins σ H s):PN X.prog X.w X.K X.mg X.base X.A X.stack s H:=
 ⟨I.ok.frames,I.ok.mod,I.bs,Nat.le_trans I.ok.bsz I.sz,I.stack,I.Ju,I.hok,I.bare⟩
theorem Inv.after{Q:VK}{u:Value}(I:Inv X pins σ H s)(h:CE X.stack X.prog X.w H s Q u s'):EP X pins σ Q u s':=by
 obtain⟨v,H',os,bare,un,hok,r,q⟩:=h
 obtain⟨hh,g,d,t,os'⟩:=s'
 obtain rfl:os'=s.os:=os
 exact⟨v,H',I.call (h':=hh) (g':=g) (d':=d) (t':=t) (ch:=[]) un hok bare (fun b z=>absurd z (by simp)),r,q⟩
end
def HX(sp:Sp)(dvs:List V)(E:XK)(t:TA):TE:=fun σ H Q=>t σ H fun vs H1=>sp (vs++dvs) H1 Q E
def yc(C:Addr)(m:Str)(sp:Sp)(dvs:List V)(E:XK)(ta:TE)(t:TA):TE:=fun σ H Q=>ta σ H fun x H1=>∃a dx fs,x= .ref a∧H1 a=some (.ins C dx fs)∧fs.lookup m=none∧
 t σ H1 fun vs H2=>sp (x::(vs++dvs)) H2 Q E
def Rv(C:Addr)(sp:Sp)(dvs:List V)(E:XK)(t:TA):TE:=fun σ H Q=>t σ H fun vs H1=>∀x dx,H1 x=none→H1 dx=none→dx≠x→
 sp (.ref x::(vs++dvs)) (upd (upd H1 dx (.own x)) x (.ins C dx [])) (fun v H2=>v= .non∧Q (.ref x) H2) E
def Binds(K:PySem.W.Frag)(fd:FuncData)(ps:List Str)(ds:List Value):Prop:=
 ∀(s:Shared) (us:List Value),K.In s.heap→(us++ds).length=ps.length→BindsTo s fd ⟨us,[]⟩ (ps.zip (us++ds))
theorem Binds.all{K:PySem.W.Frag}{fd:FuncData}{ps:List Str}(h: ∀us:List Value,us.length=ps.length→bindArgs fd ⟨us,[]⟩=pure (ps.zip us)):Binds K fd ps []:=fun s us _ hl=>by
 rw[List.append_nil] at hl⊢
 exact .of_eq (h us hl)
def Passes(CX:CXT)(X:Cx)(E:XK):Prop:=∀(pins:List (Addr×Obj)) (σ:St) (H:Hp) (s:Shared) (e:Value) (s':Shared),Inv X pins σ H s→CX X.stack H s E e s'→X.xe e s'
section
variable{X:Cx}{CX:CXT}{k:Nat}{f C:Addr}{fd:FuncData}{ps:List Str}{sp:Sp}{dvs:List V}{ds:List Value}{E:XK}{x m:Str}{p pos apos:Pos}{e o:Expr}{es:List Expr}{ta:TE}{t:TA}
theorem Jy{pins:List (Addr×Obj)}{σ:St}{H:Hp}{s:Shared}{Q:VK}{us:List Value}{vs:List V}(F:bJ X.prog X.w X.K X.mg X.base CX k f fd ps sp)(hr:gw k X.A)(hb:Binds X.K fd ps ds)(hd:Vals dvs ds)(hx:Passes CX X E)
  (I:Inv X pins σ H s) (r:Vals vs us) (h:sp (vs++dvs) H Q E):wpAny (model X.prog X.w) X.A (call (.ref f) us) (EP X pins σ Q) X.xe s:=by
 have r2:Vals (vs++dvs) (us++ds):=r.append hd
 have hl:(us++ds).length=ps.length:=by rw[←r2.length];exact F.len _ _ _ _ h
 refine wpAny_call (codeAny_mono (F.run X.A X.stack s H ⟨us,[]⟩ (us++ds) (vs++dvs) Q E hr I.env0 (hb s us I.kIn hl) r2 h) fun r s' hq=>?_)
 cases r with
 |error e=>exact hx pins σ H s e s' I hq
 |ok fl=>
  cases fl with
  |ret u=>exact I.after hq
  |next=>exact False.elim hq
  |brk=>exact False.elim hq
  |cont=>exact False.elim hq
theorem Xr(F:bJ X.prog X.w X.K X.mg X.base CX k f fd ps sp)(hr:gw k X.A)(hg:Gl X x)(hm:X.mg x=some (.ref f))(hk:PySem.W.keepIn X.K (.ref f)=true)(hb:Binds X.K fd ps ds)(hd:Vals dvs ds)(hx:Passes CX X E)
  (ha:PA X (e::es) t) (hdb:(x==("__debug__":Str))=false:=by decide) (he:starEach (e::es) X.env=(false,eval e X.env)::starEach es X.env:=by rfl) (hpl:(backTo pos (starEach es X.env)).any (·.1)=false:=by rfl):
  PE X (.Call (.Name x p) (e::es) [] pos) (HX sp dvs E t):=by
 intro pins s σ H Q I h
 refine wpAny_Call_Name_kw (Cv I hg hm ?_ hdb)
 refine PySem.W.callWith_K (h₀:=X.base) I.ok.mod.kin hk (thn (ha pos pins s σ H _ I h) fun us s1 ⟨vs,H1,I1,r,q⟩=>⟨I1.kIn,?_⟩) he hpl
 exact Jy F hr hb hd hx I1 r q
theorem Xu{pl:Sem Bool}(he:PE X o ta)(c:Cls X.K C)(hm:Meth X.K C m f)(F:bJ X.prog X.w X.K X.mg X.base CX k f fd ps sp)(hr:gw k X.A)(hb:Binds X.K fd ps ds)(hd:Vals dvs ds)(hx:Passes CX X E)(ha:PA X (e::es) t)
  (hst:starEach (e::es) X.env=(false,eval e X.env)::starEach es X.env:=by rfl) (hpl:(backTo pos (starEach es X.env)).any (·.1)=false:=by rfl)
  (ht:eval (.Call (.Attribute o m apos) (e::es) [] pos) X.env=(do
   let ov←eval o X.env
   standAt apos.atName
   let (f,first)←holding [ov] (getMethod ov m pl)
   callWith pos f first (backTo pos (starEach (e::es) X.env)) (backToKw pos (keywordEach [] X.env))):=by rfl):
  PE X (.Call (.Attribute o m apos) (e::es) [] pos) (yc C m sp dvs E ta t):=by
 intro pins s σ H Q I h
 refine PySem.W.methodCall_KW (pl:=pl) (thn (he pins s σ H _ I h) fun u s1 ⟨x,H1,I1,rx,a,dx,fs,ex,ea,l,q⟩=>?_) ht
 subst ex
 obtain rfl:u=Value.ref a:=rx
 refine Dt I1 ea c hm l ?_
 refine PySem.W.callWith_K (first:=[.ref a]) (h₀:=X.base) I.ok.mod.kin hm.kp (thn (ha pos pins s1 σ H1 _ I1 q) fun us s2 ⟨vs,H2,I2,r,q2⟩=>⟨I2.kIn,?_⟩) hst hpl
 exact Jy (us:= .ref a::us) (vs:= .ref a::vs) F hr hb hd hx I2 (.cons rfl r) q2
theorem Vp{pl:Sem Bool}(he:PE X o ta)(c:Cls X.K C)(hm:Meth X.K C m f)(F:bJ X.prog X.w X.K X.mg X.base CX k f fd ps sp)(hr:gw k X.A)(hb:Binds X.K fd ps ds)(hd:Vals dvs ds)(hx:Passes CX X E)
  (ht:eval (.Call (.Attribute o m apos) [] [] pos) X.env=(do
   let ov←eval o X.env
   standAt apos.atName
   let (f,first)←holding [ov] (getMethod ov m pl)
   callWith pos f first (backTo pos (starEach [] X.env)) (backToKw pos (keywordEach [] X.env))):=by rfl):
  PE X (.Call (.Attribute o m apos) [] [] pos) (yc C m sp dvs E ta lC):=by
 intro pins s σ H Q I h
 refine PySem.W.methodCall_KW (pl:=pl) (thn (he pins s σ H _ I h) fun u s1 ⟨x,H1,I1,rx,a,dx,fs,ex,ea,l,q⟩=>?_) ht
 subst ex
 obtain rfl:u=Value.ref a:=rx
 refine Dt I1 ea c hm l ?_
 exact PySem.W.callWith_K0 (first:=[.ref a]) I1.kIn hm.kp (Jy (us:=[.ref a]) (vs:=[.ref a]) F hr hb hd hx I1 (.cons rfl .nil) q)
structure Mk(K:PySem.W.Frag)(C f:Addr):Prop where
 makes:PySem.W.makesIn K C=true
 init:PySem.W.findIn K (.ref C) "__init__"=some (some (.ref f))
 fn:PySem.W.isFn K (.ref f)=true
 kp:PySem.W.keepIn K (.ref C)=true
theorem Mt{pins:List (Addr×Obj)}{σ:St}{H:Hp}{s:Shared}{Q:VK}{us:List Value}{vs:List V}(M:Mk X.K C f)(F:bJ X.prog X.w X.K X.mg X.base CX k f fd ps sp)(hr:gw (k+1) X.A)(hb:Binds X.K fd ps ds)(hd:Vals dvs ds)
  (hx:Passes CX X E) (I:Inv X pins σ H s) (r:Vals vs us)
  (h: ∀x dx,H x=none→H dx=none→dx≠x→sp (.ref x::(vs++dvs)) (upd (upd H dx (.own x)) x (.ins C dx [])) (fun v H2=>v= .non∧Q (.ref x) H2) E):
  wpAny (model X.prog X.w) X.A (call (.ref C) us) (EP X pins σ Q) X.xe s:=by
 have hq:=h (s.heap.objs.size+1) s.heap.objs.size (I.hok.fresh (Nat.le_succ _)) (I.hok.fresh (Nat.le_refl _)) (Nat.ne_of_lt (Nat.lt_succ_self _))
 have I2:=Inv.made (C:=C) I
 have r2:Vals (V.ref (s.heap.objs.size+1)::(vs++dvs)) (Value.ref (s.heap.objs.size+1)::(us++ds)):= .cons rfl (r.append hd)
 have hl:(Value.ref (s.heap.objs.size+1)::us++ds).length=ps.length:=by
  have e:=r2.length
  rw[F.len _ _ _ _ hq] at e
  exact e.symm
 refine wpAny_call (Vn (f:=f) I.kIn M.makes M.init (beq_iff_eq.mp M.fn) (codeAny_mono (F.run _ X.stack _ _ ⟨Value.ref (s.heap.objs.size+1)::us,[]⟩ (Value.ref (s.heap.objs.size+1)::(us++ds)) _ _ E (hr.make C us [])
  (I2.env0.make C us []) (hb _ (Value.ref (s.heap.objs.size+1)::us) I2.kIn hl) r2 hq) fun r s' hq'=>?_))
 cases r with
 |error e=>exact hx pins σ _ _ e s' I2 hq'
 |ok fl=>
  cases fl with
  |ret u=>
   obtain⟨v,H',I3,rv,ev,q3⟩:=I2.after hq'
   subst ev
   exact⟨rv,⟨V.ref (s.heap.objs.size+1),H',I3,rfl,q3⟩⟩
  |next=>exact False.elim hq'
  |brk=>exact False.elim hq'
  |cont=>exact False.elim hq'
theorem Xv(M:Mk X.K C f)(F:bJ X.prog X.w X.K X.mg X.base CX k f fd ps sp)(hr:gw (k+1) X.A)(hg:Gl X x)(hm:X.mg x=some (.ref C))(hb:Binds X.K fd ps ds)(hd:Vals dvs ds)(hx:Passes CX X E)
  (ha:PA X (e::es) t) (hdb:(x==("__debug__":Str))=false:=by decide) (he:starEach (e::es) X.env=(false,eval e X.env)::starEach es X.env:=by rfl) (hpl:(backTo pos (starEach es X.env)).any (·.1)=false:=by rfl):
  PE X (.Call (.Name x p) (e::es) [] pos) (Rv C sp dvs E t):=by
 intro pins s σ H Q I h
 refine wpAny_Call_Name_kw (Cv I hg hm ?_ hdb)
 refine PySem.W.callWith_K (h₀:=X.base) I.ok.mod.kin M.kp (thn (ha pos pins s σ H _ I h) fun us s1 ⟨vs,H1,I1,r,q⟩=>⟨I1.kIn,?_⟩) he hpl
 exact Mt M F hr hb hd hx I1 r q
theorem Vq(M:Mk X.K C f)(F:bJ X.prog X.w X.K X.mg X.base CX k f fd ps sp)(hr:gw (k+1) X.A)(hg:Gl X x)(hm:X.mg x=some (.ref C))(hb:Binds X.K fd ps ds)(hd:Vals dvs ds)(hx:Passes CX X E)
  (hdb:(x==("__debug__":Str))=false:=by decide):PE X (.Call (.Name x p) [] [] pos) (Rv C sp dvs E lC):=by
 intro pins s σ H Q I h
 refine wpAny_Call_Name_kw (Cv I hg hm ?_ hdb)
 exact PySem.W.callWith_K0 I.kIn M.kp (Mt (us:=[]) M F hr hb hd hx I .nil h)
end
section
variable{X:Cx}{CX:CXT}{k:Nat}{f C:Addr}{fd:FuncData}{ps ks:List Str}{sp:Sp}{E:XK}{x m:Str}{p pos apos kpos:Pos}{e o:Expr}{es:List Expr}{kws:List Keyword}{te ta:TE}{t tk:TA}{nm:Option Str}
variable{g:List Value→List Value→List Value}{gV:List V→List V→List V}
end
structure aU(N P:List Str)(sc:Scope):Prop where
 kind:sc.kind= .function
 co:sc.isCoroutine=false
 gen:sc.isGenerator=false
 nd:N.Nodup
 pre:N.take P.length=P
 par: ∀x∈P,sc.names.lookup x=some .local∨sc.names.lookup x=some .cell
 Zx: ∀y∈sc.names,y.2≠ .free
theorem HY{kindOf:Str→Option NameKind}{x:Str}: ∀{binds:List (Str×Value)} {m:Str→Option Value},(∀v,(x,v)∉binds)→bindL kindOf binds m x=m x
 |[],_,_=>rfl
 |(n,v)::r,m,h=>by
  unfold bindL
  rw[HY fun w hw=>h w (List.mem_cons_of_mem _ hw)]
  split
  ·have:x≠n:=by rintro rfl;exact h v List.mem_cons_self
   simp[this]
  ·rfl
theorem Ia{kindOf:Str→Option NameKind}{x:Str}: ∀{binds:List (Str×Value)} {m:Str→Option Value},(∀v,(x,v)∉binds)→bindC kindOf binds m x=m x
 |[],_,_=>rfl
 |(n,v)::r,m,h=>by
  unfold bindC
  rw[Ia fun w hw=>h w (List.mem_cons_of_mem _ hw)]
  split
  ·rfl
  ·have:x≠n:=by rintro rfl;exact h v List.mem_cons_self
   simp[this]
theorem Ib{kindOf:Str→Option NameKind}{x:Str}{v:Value}: ∀{P:List Str} {vs:List Value} {i:Nat} {m:Str→Option Value},P.Nodup→P[i]?=some x→vs[i]?=some v→kindOf x=some .local→
  bindL kindOf (P.zip vs) m x=some v
 |[],_,_,_,_,h,_,_=>by simp at h
 |_::_,[],_,_,_,_,h,_=>by simp at h
 |p::P,w::vs,0,m,nd,h1,h2,hk=>by
  simp at h1 h2;subst h1;subst h2
  show bindL kindOf ((p,w)::P.zip vs) m p=_
  unfold bindL
  rw[HY fun v hv=>(List.nodup_cons.mp nd).1 (List.of_mem_zip hv).1,if_pos hk]
  simp
 |p::P,w::vs,i+1,m,nd,h1,h2,hk=>by
  show bindL kindOf ((p,w)::P.zip vs) m x=_
  unfold bindL
  exact Ib (i:=i) (List.nodup_cons.mp nd).2 (by simpa using h1) (by simpa using h2) hk
theorem Ie{kindOf:Str→Option NameKind}{x:Str}{v:Value}: ∀{P:List Str} {vs:List Value} {i:Nat} {m:Str→Option Value},P.Nodup→P[i]?=some x→vs[i]?=some v→kindOf x≠some .local→
  bindC kindOf (P.zip vs) m x=some v
 |[],_,_,_,_,h,_,_=>by simp at h
 |_::_,[],_,_,_,_,h,_=>by simp at h
 |p::P,w::vs,0,m,nd,h1,h2,hk=>by
  simp at h1 h2;subst h1;subst h2
  show bindC kindOf ((p,w)::P.zip vs) m p=_
  unfold bindC
  rw[Ia fun v hv=>(List.nodup_cons.mp nd).1 (List.of_mem_zip hv).1,if_neg hk]
  simp
 |p::P,w::vs,i+1,m,nd,h1,h2,hk=>by
  show bindC kindOf ((p,w)::P.zip vs) m x=_
  unfold bindC
  exact Ie (i:=i) (List.nodup_cons.mp nd).2 (by simpa using h1) (by simpa using h2) hk
def start(N:List Str)(vs:List V):St:=vs.map some++List.replicate (N.length - vs.length) none
def Jz(CX:CXT)(P:Program)(w:World)(K:PySem.W.Frag)(mg:Str→Option Value)(base:Heap)(N:List Str)(qual:Str)(scope:Scope)(f:Addr)(cd:Value)(A:Around)(outer:List Env)(s:Shared)(H:Hp)(E:XK):Cx where
 prog:=P
 w:=w
 K:=K
 mg:=mg
 base:=base
 A:=A.deeper (envOfC qual scope s.heap.objs.size f cd)
 N:=N
 s_0:=s
 H_0:=H
 env:=envOfC qual scope s.heap.objs.size f cd
 outer:=outer
 stack:=envOfC qual scope s.heap.objs.size f cd::outer
 ex:=[]
 calm:=true
 fn:=fun _=>true
 pn:=[]
 xe:=fun e s'=>wpAny (model P w) (A.deeper (envOfC qual scope s.heap.objs.size f cd)) (leaving (envOfC qual scope s.heap.objs.size f cd) e) (fun _ s''=>CX outer H s E e s'') (fun e' s''=>CX outer H s E e' s'') s'
theorem Mu{sc:Scope}{n:Nat}{x:Str}(h:sc.names.lookup x=some .cell): ∃c,(cellsFrom n sc.names []).lookup x=some c:=by
 have q:=PySem.W.cellsFrom_some sc.names n [] (.inl h)
 exact Option.isSome_iff_exists.mp q
theorem S7{CX:CXT}{P:Program}{w:World}{K:PySem.W.Frag}{mg:Str→Option Value}{base:Heap}{N ps:List Str}{qual:Str}{scope:Scope}{f:Addr}{cd:Value}{A:Around}{outer:List Env}{s s1:Shared}{H:Hp}{E:XK}{us:List Value}{vs:List V}
  (S:aU N ps scope) (hd:A.handled=none) (e0:PN P w K mg base A outer s H) (hl:vs.length=ps.length) (r:Vals vs us)
  (x:InCallC s s.heap.objs.size (bindL (envOfC qual scope s.heap.objs.size f cd).kindOf (ps.zip us) fun _=>none) (cellsFrom (s.heap.objs.size+1) scope.names []) (bindC (envOfC qual scope s.heap.objs.size f cd).kindOf (ps.zip us) fun _=>none) s1):
  Inv (Jz CX P w K mg base N qual scope f cd A outer s H E) [] (start N vs) H s1:=by
 have hpl:ps.length≤N.length:=by have:=congrArg List.length S.pre;rw[List.length_take] at this;omega
 obtain⟨h1,tk,rfl,hk⟩:=x.done
 have noA: ∀b:Addr,b∉(Jz CX P w K mg base N qual scope f cd A outer s H E).ex:=fun b z=>absurd (show b∈([]:List Addr) from z) (by simp)
 refine⟨⟨e0.mod,S.kind,rfl,rfl,Nat.le_refl _,fun y z c h1 h2=>?_,fun y hy=>?_,fun y c _ h=>?_,fun _=>hd,Around.frames_deeper e0.frames,.inr ⟨rfl,rfl⟩,fun b z=>absurd z (noA b),e0.bs,e0.bsz,fun b _ _=>noA b,fun b z=>absurd z (noA b),e0.BP,e0.frf⟩,
  rfl,e0.bare,Un.kept hk,⟨_,x.toInCall.ns,fun i y v h1 h2 h3=>?_⟩,fun y c h=>⟨_,x.cell y c h⟩,e0.hok.fresh (Nat.le_refl _),fun y c h=>?_,fun p hp=>absurd (show p∈([]:List (Addr×Obj)) from hp) (by simp),e0.hok.kept hk,?_⟩
 ·exact name_of_addr x.apart (PySem.mem_of_lookup h1) (PySem.mem_of_lookup h2)
 ·have hy:scope.names.lookup y=some .cell∨scope.names.lookup y=some .free:=hy
  rcases hy with hy|hy
  ·exact Mu hy
  ·exact absurd rfl (S.Zx _ (PySem.mem_of_lookup hy))
 ·exact Nat.le_of_lt (x.above y c (PySem.mem_of_lookup h))
 ·have hi:i<vs.length:=by
   unfold start at h2
   by_cases hi:i<vs.length
   ·exact hi
   ·rw[List.getElem?_append_right (by simpa using hi)] at h2
    rw[List.getElem?_replicate] at h2
    split at h2<;>cases h2
  have ha:vs[i]?=some v:=by
   unfold start at h2
   rw[List.getElem?_append_left (by simpa using hi),List.getElem?_map] at h2
   cases e:vs[i]? with
   |none=>rw[e] at h2;cases h2
   |some a=>rw[e] at h2;cases h2;rfl
  obtain⟨u,hu,rv⟩:=r.get ha
  have hp:ps[i]?=some y:=by
   rw[←S.pre,List.getElem?_take_of_lt (by omega)];exact h1
  have ndP:ps.Nodup:=by rw[←S.pre];exact S.nd.sublist (List.take_sublist _ _)
  refine⟨u,rv,?_⟩
  rcases S.par y (List.mem_of_getElem? hp) with k|k
  ·exact .inl ⟨k,Ib ndP hp hu k⟩
  ·obtain⟨c,e⟩:=Mu (n:=s.heap.objs.size+1) k
   refine .inr ⟨.inl k,c,e,?_⟩
   have q:=x.cell y c e
   rw[Ie ndP hp hu (by show scope.names.lookup y≠_;rw[k];decide)] at q
   exact q
 ·exact e0.hok.fresh (Nat.le_of_lt (x.above y c (PySem.mem_of_lookup h)))
 ·unfold start
  show _=N.length
  rw[List.length_append,List.length_map,List.length_replicate]
  omega
theorem YK{CX:CXT}{P:Program}{w:World}{K:PySem.W.Frag}{mg:Str→Option Value}{base:Heap}{k:Nat}{f:Addr}{name qual:Str}{params:Arguments}{body:List Stmt}{scope:Scope}{dV kV doc pm cdv ct oc:Value}{an od:Option Addr}
  {osl:Array (Option Value)} {N ps:List Str} {sp:Sp} (lk:K.lookup f=some ⟨oc,od,.func (PySem.W.fnOf name qual params body scope dV kV doc pm an cdv ct),osl⟩) (hcd:PySem.W.codeIn K cdv qual=true) (S:aU N ps scope)
  (len: ∀vs H Q E,sp vs H Q E→vs.length=ps.length)
  (hbody: ∀(A:Around) (outer:List Env) (s:Shared) (H:Hp) (vs:List V) (Q:VK) (E:XK),gw k (A.deeper (envOfC qual scope s.heap.objs.size f cdv))→sp vs H Q E→
   ∃t,PSs (Jz CX P w K mg base N qual scope f cdv A outer s H E) body t∧t {nx:=fun _ H'=>Q .non H',rt:=Q} (start N vs) H):
  bJ P w K mg base CX (k+1) f (PySem.W.fnOf name qual params body scope dV kV doc pm an cdv ct) ps sp:=by
 refine⟨len,fun A outer s H args us vs Q E hr e0 hb r hsp=>?_⟩
 have hl:=len _ _ _ _ hsp
 have KX:K.In s.heap:=e0.mod.kin.keeps fun b o e=>(e0.bs b o e).1
 have lim:s.heap.NoLimit:=e0.mod.nolimit.keeps fun b o e=>(e0.bs b o e).1
 have hkind: ∀y∈ps.zip us,scope.names.lookup y.1=some .local∨(scope.names.lookup y.1=some .cell∧((cellsFrom (s.heap.objs.size+1) scope.names []).lookup y.1).isSome=true):=fun⟨n,v⟩ hy=>by
  rcases S.par n (List.of_mem_zip hy).1 with q|q
  ·exact .inl q
  ·exact .inr ⟨q,PySem.W.cellsFrom_some _ _ _ (.inl q)⟩
 refine codeAny_call_function hr.depth (KX _ _ lk) rfl S.co S.gen rfl (PySem.W.codeRec_of KX hcd) (hb _ _ _ _ ?_)
 refine wpAny_newFunctionEnv_cells S.kind hkind fun env he s1 x=>?_
 subst he
 refine⟨lim.keeps x.toInCall.keep,codeAny_func ?_⟩
 obtain⟨t,ht,hq⟩:=hbody A outer s H vs Q E (hr.deeper _) hsp
 have I:Inv (Jz CX P w K mg base N qual scope f cdv A outer s H E) [] (start N vs) H s1:=S7 S hr.hd e0 hl r x
 refine wpAny_mono (ht [] s1 (start N vs) H _ I hq) (fun fl s' hs=>?_) fun e s' hs=>hs
 have fin: ∀{σ':St} {H':Hp} {v:V} {u:Value},Inv (Jz CX P w K mg base N qual scope f cdv A outer s H E) [] σ' H' s'→RelV v u→Q v H'→CE outer P w H s Q u s':=
  fun{σ' H' v u} J rv q=>⟨v,H',J.os,J.bare,J.base,J.hok,rv,q⟩
 cases fl with
 |ret u=>
  obtain⟨v,σ',H',J,rv,q⟩:=hs
  exact fin J rv q
 |next=>
  obtain⟨σ',H',J,q⟩:=hs
  exact fin (v:=V.non) (u:=Value.none) J rfl q
 |brk=>
  obtain⟨_,_,_,q⟩:=hs
  exact False.elim q
 |cont=>
  obtain⟨_,_,_,q⟩:=hs
  exact False.elim q
section
variable{X:Cx}{x:Str}{p pos:Pos}{e:Expr}{es:List Expr}{t:TA}{id T:String}{r:List V→Hp→VK→Prop}
def tCB(r:List V→Hp→VK→Prop)(t:TA):TE:=fun σ H Q=>t σ H fun vs H1=>r vs H1 Q
theorem bA(hc:Dn X (.builtin id) r)(hg:Gl X x)(hm:X.mg x=none)(hv:bootBuiltins x=some (.builtin id))(ha:PA X (e::es) t)(hn:x≠"__name__":=by decide)(hdb:(x==("__debug__":Str))=false:=by decide)
  (he:starEach (e::es) X.env=(false,eval e X.env)::starEach es X.env:=by rfl) (hpl:(backTo pos (starEach es X.env)).any (·.1)=false:=by rfl):PE X (.Call (.Name x p) (e::es) [] pos) (tCB r t):=by
 intro pins s σ H Q I h
 refine wpAny_Call_Name_kw (tV I hg hm hv ?_ hn hdb)
 exact PyProof.Rows.callWith_builtin1 (thn (ha pos pins s σ H _ I h) fun us s1 ⟨vs,H1,I1,r1,q1⟩=>hc pins s1 σ H1 vs us Q I1 r1 q1) he hpl
theorem vJ(hc:Dn X (.type T) r)(hg:Gl X x)(hm:X.mg x=none)(hv:bootBuiltins x=some (.type T))(ha:PA X (e::es) t)(hn:x≠"__name__":=by decide)(hdb:(x==("__debug__":Str))=false:=by decide)
  (he:starEach (e::es) X.env=(false,eval e X.env)::starEach es X.env:=by rfl) (hpl:(backTo pos (starEach es X.env)).any (·.1)=false:=by rfl):PE X (.Call (.Name x p) (e::es) [] pos) (tCB r t):=by
 intro pins s σ H Q I h
 refine wpAny_Call_Name_kw (tV I hg hm hv ?_ hn hdb)
 exact PyProof.Rows.callWith_type1 (thn (ha pos pins s σ H _ I h) fun us s1 ⟨vs,H1,I1,r1,q1⟩=>hc pins s1 σ H1 vs us Q I1 r1 q1) he hpl
end
end L2
namespace HT
open PySem PyProof.Rows
section
open PySem.SeqAt
open PySem.AutoSeq1 (wpAny_loadPart')
open PySem.MeetsSeq PySem.MeetsSeq2 PySem.MeetsSeq3
end
section
variable{prog:Program}{w:World}{A:Around}{E:Value→Shared→Prop}{s:Shared}
def sIx(n d:Nat):Option Int→Nat
 |none=>d
 |some v=>if v<0 then(v+(n:Int)).toNat else min v.toNat n
theorem Mv(n d:Nat):sIx n d none=d:=rfl
theorem Rw(n d k:Nat):sIx n d (some (k:Int))=min k n:=by
 show(if(k:Int)<0 then((k:Int)+(n:Int)).toNat else min (k:Int).toNat n)=min k n
 rw[if_neg (by omega),Int.toNat_natCast]
end
end HT
namespace L2
open PySem PySem.Spec PyProof.Rows
abbrev TO:=St→Hp→(Option Int→Hp→Prop)→Prop
def PO(X:Cx)(e:Option Expr)(t:TO):Prop:=
 ∀(pins:List (Addr×Obj)) (s:Shared) (σ:St) (H:Hp) (Q:Option Int→Hp→Prop),Inv X pins σ H s→t σ H Q→
  wpAny (model X.prog X.w) X.A (evalPart e X.env) (fun u s'=>∃o H',Inv X pins σ H' s'∧IsPart u o∧Q o H') X.xe s
def Xw:TO:=fun _ H Q=>Q none H
def aaP(t:TE):TO:=fun σ H Q=>t σ H fun x H1=>∃i,x= .int i∧Q (some i) H1
section
variable{X:Cx}{e:Expr}{te:TE}{lo hi:Option Expr}{tl th:TO}{pos p2:Pos}
theorem mF:PO X none Xw:=by
 intro pins s σ H Q I h
 rw[evalPart_none]
 exact wpAny_pure ⟨none,H,I,.none,h⟩
theorem jE(h:PE X e te):PO X (some e) (aaP te):=by
 intro pins s σ H Q I hw
 rw[evalPart_some]
 refine thn (h pins s σ H _ I hw) fun u s1 ⟨x,H1,I1,r1,q1⟩=>?_
 obtain⟨i,rfl,q⟩:=q1
 obtain⟨t,rfl⟩:=r1
 exact⟨some i,H1,I1,.int i t,q⟩
def SlR(X:Cx)(r:V→Option Int→Option Int→Hp→VK→Prop):Prop:=
 ∀(pins:List (Addr×Obj)) (s:Shared) (σ:St) (H:Hp) (x:V) (v vl vu:Value) (lo hi:Option Int) (sl:Addr) (Q:VK),Inv X pins σ H s→RelV x v→s.heap.IsSliceOf sl vl vu .none→IsPart vl lo→IsPart vu hi→r x lo hi H Q→
  ∃T id,typeLookup (.type T) "__getitem__"=pure (some (.builtin id))∧s.TypeIs v T∧wpAny (model X.prog X.w) X.A (getItem v (.ref sl)) (EP X pins σ Q) X.xe s
def tSl(r:V→Option Int→Option Int→Hp→VK→Prop)(te:TE)(tl th:TO):TE:=fun σ H Q=>te σ H fun x H1=>tl σ H1 fun l H2=>th σ H2 fun u H3=>r x l u H3 Q
theorem iZ{r:V→Option Int→Option Int→Hp→VK→Prop}(hr:SlR X r)(he:PE X e te)(hl:PO X lo tl)(hu:PO X hi th):PE X (.Subscript e (.Slice lo hi none p2) pos) (tSl r te tl th):=by
 intro pins s σ H Q I h
 refine Subscript_ (thn (he pins s σ H _ I h) fun v s1 ⟨x,H1,I1,r1,q1⟩=>?_)
 refine wpAny_Slice (thn (hl pins s1 σ H1 _ I1 q1) fun vl s2 ⟨l,H2,I2,pl,q2⟩=>thn (hu pins s2 σ H2 _ I2 q2) fun vu s3 ⟨u,H3,I3,pu,q3⟩=>?_)
 rw[evalPart_none]
 refine wpAny_pure ?_
 have I4:Inv X pins σ H3 {s3 with heap:=s3.heap.push {cls:= .type "slice",data:= .fields #[vl,vu,.none]}}:=I3.kept (t':=s3.toks) fun b ob q=>Heap.get?_push_of_some _ q
 obtain⟨T,id,hT,ht,hg⟩:=hr pins {s3 with heap:=s3.heap.push {cls:= .type "slice",data:= .fields #[vl,vu,.none]}} σ H3 x v vl vu l u s3.heap.objs.size Q I4 r1 (Heap.IsSliceOf.new ..) pl pu q3
 show wpAny (model X.prog X.w) X.A (subscriptTail e (.Slice lo hi none p2) v (.ref s3.heap.objs.size)) (EP X pins σ Q) X.xe {s3 with heap:=s3.heap.push {cls:= .type "slice",data:= .fields #[vl,vu,.none]}}
 exact tail_any (ops:=[.ref s3.heap.objs.size,v]) ht hT hg (by with_unfolding_all rfl)
def jY(xs:List V)(lo hi:Option Int):List V:=(xs.drop (HT.sIx xs.length 0 lo)).take (HT.sIx xs.length xs.length hi - HT.sIx xs.length 0 lo)
theorem Mw(xs:List V)(lo hi:Option Int):(jY xs lo hi).length≤xs.length:=by
 unfold jY
 rw[List.length_take,List.length_drop]
 omega
end
def ixN(n:Nat)(i:Int):Option Nat:=if 0≤i then(if i<n then some i.toNat else none) else if -(n:Int)≤i then some (i+n).toNat else none
def atI{α:Type}(xs:List α)(i:Int):Option α:=(ixN xs.length i).bind fun j=>xs[j]?
theorem Rx{n:Nat}{i:Int}{j:Nat}(h:ixN n i=some j):seqIndex? i n=some j∧j<n∧ -(n:Int)≤i∧i<n:=by
 unfold ixN at h
 by_cases h0:0≤i
 ·rw[if_pos h0] at h
  by_cases h1:i<n
  ·rw[if_pos h1] at h
   have e:i.toNat=j:=Option.some.inj h
   exact⟨by rw[seqIndex_of h0 h1,e],by omega,by omega,h1⟩
  ·rw[if_neg h1] at h;cases h
 ·rw[if_neg h0] at h
  by_cases h1: -(n:Int)≤i
  ·rw[if_pos h1] at h
   have e:(i+n).toNat=j:=Option.some.inj h
   exact⟨by rw[seqIndex_neg (by omega) h1,e],by omega,h1,by omega⟩
  ·rw[if_neg h1] at h;cases h
theorem Ry{α:Type}{xs:List α}{i:Int}{v:α}(h:atI xs i=some v): ∃j,seqIndex? i xs.length=some j∧xs[j]?=some v∧j<xs.length∧ -(xs.length:Int)≤i∧i<xs.length:=by
 unfold atI at h
 cases e:ixN xs.length i with
 |none=>rw[e] at h;cases h
 |some j=>
  rw[e] at h
  obtain⟨h1,h2,h3,h4⟩:=Rx e
  exact⟨j,h1,h,h2,h3,h4⟩
theorem JB{α:Type}{xs:List α}{j:Nat}{v:α}(h:xs[j]?=some v):atI xs (j:Int)=some v:=by
 have hj:j<xs.length:=(List.getElem?_eq_some_iff.mp h).1
 have e:ixN xs.length (j:Int)=some j:=by
  unfold ixN
  rw[if_pos (by omega),if_pos (by omega)];simp
 unfold atI;rw[e];exact h
def Xx(b:Expr):Prop:=∀o i,subscripted b false o i=operate [o,i] (getItem o i)
def IxR(X:Cx)(r:R2):Prop:=
 ∀(value slice:Expr) (pins:List (Addr×Obj)) (s:Shared) (σ:St) (H:Hp) (x y:V) (v u:Value) (Q:VK),Inv X pins σ H s→RelV x v→RelV y u→r x y H Q→
  subscripted slice false v u=operate [v,u] (getItem v u)→wpAny (model X.prog X.w) X.A (subscriptTail value slice v u) (EP X pins σ Q) X.xe s
def MtR(X:Cx)(id:String)(r:V→List V→Hp→VK→Prop):Prop:=
 ∀(pins:List (Addr×Obj)) (s:Shared) (σ:St) (H:Hp) (x:V) (xs:List V) (v:Value) (us:List Value) (Q:VK),Inv X pins σ H s→RelV x v→Vals xs us→r x xs H Q→
  wpAny (model X.prog X.w) X.A (call (.builtin id) (v::us)) (EP X pins σ Q) X.xe s
section
variable{X:Cx}{a b:Expr}{ta tb:TE}{pos:Pos}
theorem cJ{r:R2}(hr:IxR X r)(ha:PE X a ta)(hb:PE X b tb)(hs:Xx b):PE X (.Subscript a b pos) (tOp r ta tb):=by
 intro pins s σ H Q I h
 exact Subscript_ (Zq ha hb I h fun v u s2 x y H2 I2 rx ry q=>hr a b pins s2 σ H2 x y v u Q I2 rx ry q (hs _ _))
def Zy(K:PySem.W.Frag):R2:=fun x y H Q=>∃p xs i v,x= .ref p∧y= .int i∧SqL K H p xs∧atI xs i=some v∧Q v H
def Vr(K:PySem.W.Frag):R2:=fun x y H Q=>∃p xs i v,x= .ref p∧y= .int i∧SqT K H p xs∧atI xs i=some v∧Q v H
theorem bK:IxR X (Zy X.K):=by
 intro value slice pins s σ H x y v u Q I rx ry h hs
 obtain⟨p,xs,i,z,rfl,rfl,hq,he,q⟩:=h
 cases rx
 obtain⟨t,rfl⟩:=ry
 obtain⟨its,r,pl,hz⟩:=I.list hq
 obtain⟨j,h1,h2,h3,h4,h5⟩:=Ry he
 obtain⟨w,ew,rw'⟩:=r.get h2
 have hl:=r.length
 have hn:=Jw
 have fin:EP X pins σ Q w s:=⟨z,H,I,rw',q⟩
 by_cases h0:0≤i
 ·have hj:i.toNat=j:=by
   rw[seqIndex_of h0 h5] at h1
   exact Option.some.inj h1
  exact item_listR pl.isList h0 (by omega) (by rw[hj];simpa using ew) fin hs
 ·have hj:(i+(its.toArray.size:Int)).toNat=j:=by
   rw[seqIndex_neg (by omega) h4] at h1
   rw[List.size_toArray,←hl]
   exact Option.some.inj h1
  exact subscriptTail_builtinR (x:=w) pl.isList.typeIs slot_list_getitem.lookup
   (wpAny_getItem_list_neg (Q:=fun r s'=>r=w∧EP X pins σ Q r s') pl.isList (by omega) (by rw[List.size_toArray]<;>omega) (by omega) (by rw[hj];simpa using ew) ⟨rfl,fin⟩) hs
theorem tZ:IxR X (Vr X.K):=by
 intro value slice pins s σ H x y v u Q I rx ry h hs
 obtain⟨p,xs,i,z,rfl,rfl,hq,he,q⟩:=h
 cases rx
 obtain⟨t,rfl⟩:=ry
 obtain⟨its,r,pl,hz⟩:=I.tuple hq
 obtain⟨j,h1,h2,h3,h4,h5⟩:=Ry he
 obtain⟨w,ew,rw'⟩:=r.get h2
 have hl:=r.length
 have hn:=Jw
 have fin:EP X pins σ Q w s:=⟨z,H,I,rw',q⟩
 exact subscriptTail_builtinR (x:=w) pl.typeIs slot_tuple_getitem.lookup
  (getItem_tuple (j:=j) (Q:=fun r s'=>r=w∧EP X pins σ Q r s') pl (by omega) (by omega) (by rw[List.size_toArray,←hl];exact h1) (by simpa using ew) ⟨rfl,fin⟩) hs
theorem PX(its:List Value)(n j:Nat)(u:Value):Obj.mapSeq (·.setIfInBounds j u) {cls:= .type "list",data:= .seq its.toArray n}={cls:= .type "list",data:= .seq (its.set j u).toArray n}:=by
 simp[Obj.mapSeq]
theorem Inv.lst{pins:List (Addr×Obj)}{σ:St}{H:Hp}{s:Shared}{p:Addr}{xs:List V}(I:Inv X pins σ H s)(h:H p=some (.lst xs)):
  ∃(its:List Value) (n:Nat),Vals xs its∧s.heap.get? p=some {cls:= .type "list",data:= .seq its.toArray n}∧xs.length≤sizeLine:=by
 obtain⟨z,its,n,r,e⟩:=I.hok p _ h
 exact⟨its,n,r,e,z⟩
theorem Inv.Zz{pins:List (Addr×Obj)}{σ:St}{H:Hp}{s:Shared}{p:Addr}{xs ys:List V}{its its':List Value}{n n':Nat}{f:Obj→Obj}(I:Inv X pins σ H s)(h:H p=some (.lst xs))
  (ho:s.heap.get? p=some {cls:= .type "list",data:= .seq its.toArray n}) (hf:f {cls:= .type "list",data:= .seq its.toArray n}={cls:= .type "list",data:= .seq its'.toArray n'}) (r:Vals ys its') (hz:ys.length≤sizeLine) (t:Nat):
  Inv X pins σ (upd H p (.lst ys)) {s with heap:=s.heap.update p f,toks:=t}:=by
 have e:(s.heap.update p f).get? p=some {cls:= .type "list",data:= .seq its'.toArray n'}:=by
  rw[Heap.get?_update_self f ho (by rw[hf]<;>rfl),hf]
 refine I.write (x:=p) (e:=p) (by rw[h];trivial) (.inl rfl) (fun b u hb q=>(Heap.get?_update_other _ _ (Ne.symm hb)).trans q) ⟨_,e⟩ ?_
 exact⟨hz,its',n',r,e⟩
def aaQ:V→V→V→Hp→(Hp→Prop)→Prop:=fun o i v H Q=>∃p xs k j,o= .ref p∧i= .int k∧H p=some (.lst xs)∧ixN xs.length k=some j∧Q (upd H p (.lst (xs.set j v)))
theorem set_list:PSet X aaQ:=by
 intro pins s σ H o i v ov iv u Q I ro ri rv h
 obtain⟨p,xs,k,j,rfl,rfl,hp,hj,q⟩:=h
 cases ro
 obtain⟨t,rfl⟩:=ri
 obtain⟨its,n,r,ho,hz⟩:=I.lst hp
 obtain⟨h1,h2,h3,h4⟩:=Rx hj
 have hl:=r.length
 have hn:=Jw
 have I':Inv X pins σ (upd H p (.lst (xs.set j v))) {s with heap:=s.heap.update p (Obj.mapSeq (·.setIfInBounds j u))}:=
  I.Zz hp ho (PX its n j u) (r.set rv j) (by rw[List.length_set];exact hz) s.toks
 by_cases h0:0≤k
 ·have hk:k.toNat=j:=by
   rw[seqIndex_of h0 h4] at h1
   exact Option.some.inj h1
  exact PySem.W.ki_setAt ho h0 (by omega) (by rw[List.size_toArray,←hl];exact h4) (by rw[hk];exact⟨_,I',q⟩)
 ·have hk:(k+(its.toArray.size:Int)).toNat=j:=by
   rw[seqIndex_neg (by omega) h3] at h1
   rw[List.size_toArray,←hl]
   exact Option.some.inj h1
  exact PySem.W.ki_setBack ho (by omega) (by rw[List.size_toArray,←hl];exact h3) (by omega) (by rw[hk];exact⟨_,I',q⟩)
theorem JC(lo hi:Option Int)(n:Nat):(sliceBounds lo hi none n).1=((HT.sIx n 0 lo:Nat):Int)∧(sliceBounds lo hi none n).2.1=((HT.sIx n n hi:Nat):Int)∧(sliceBounds lo hi none n).2.2=1:=by
 refine⟨?_,?_,rfl⟩
 ·cases lo with
  |none=>simp[sliceBounds,HT.sIx]
  |some i=>
   simp only[sliceBounds,HT.sIx,Option.getD_none,show(1:Int)>0 by decide,if_true]
   by_cases h:i<0
   ·simp only[h,if_true]<;>omega
   ·simp only[h,if_false]<;>omega
 ·cases hi with
  |none=>simp[sliceBounds,HT.sIx]
  |some i=>
   simp only[sliceBounds,HT.sIx,Option.getD_none,show(1:Int)>0 by decide,if_true]
   by_cases h:i<0
   ·simp only[h,if_true]<;>omega
   ·simp only[h,if_false]<;>omega
theorem G3(its:List Value)(lo hi:Option Int):slicePick its.toArray lo hi none=((its.drop (HT.sIx its.length 0 lo)).take (HT.sIx its.length its.length hi - HT.sIx its.length 0 lo)).toArray:=by
 obtain⟨h1,h2,h3⟩:=JC lo hi its.toArray.size
 unfold slicePick
 rw[h1,h2,h3]
 simp only[sliceRange_one,pick_run,List.size_toArray]<;>rfl
def rSlL(K:PySem.W.Frag):V→Option Int→Option Int→Hp→VK→Prop:=fun x lo hi H Q=>∃a xs,x= .ref a∧SqL K H a xs∧∀p,H p=none→Q (.ref p) (upd H p (.lst (jY xs lo hi)))
theorem kZ:SlR X (rSlL X.K):=by
 intro pins s σ H x v vl vu lo hi sl Q I rx hs pl pu h
 obtain⟨a,xs,rfl,hx,q⟩:=h
 cases rx
 obtain⟨its,r,ht,hz⟩:=I.list hx
 have hlen:=r.length
 refine⟨"list",_,slot_list_getitem.lookup,ht.isList.typeIs,?_⟩
 refine wpAny_getItem_list_slice ht.isList hs pl pu .none (by simp) ?_ (by rw[List.size_toArray]<;>omega)
 rw[G3,←hlen]
 refine⟨.ref s.heap.objs.size,_,I.laid (t':=s.toks) (o:= .lst (jY xs lo hi)) (fun b ob q=>Heap.get?_push_of_some _ q) (Nat.le_refl _) ?_,rfl,q _ (I.hok.fresh (Nat.le_refl _))⟩
 exact⟨Nat.le_trans (Mw xs lo hi) hz,_,0,(r.drop (HT.sIx xs.length 0 lo)).take (HT.sIx xs.length xs.length hi - HT.sIx xs.length 0 lo),Heap.get?_push_size _ rfl⟩
def nY:V→Bool
 | .non=>true
 | .bl _=>true
 | .int _=>true
 | .str _=>true
 |_=>false
def eqV:V→V→Bool
 | .non,.non=>true
 | .bl a,.bl b=>a==b
 | .bl a,.int b=>(if a then 1 else 0)==b
 | .int a,.bl b=>a==(if b then 1 else 0)
 | .int a,.int b=>a==b
 | .str a,.str b=>a==b
 |_,_=>false
theorem ZC{A:Around}{s:Shared}{y x:V}{u v:Value}(ry:RelV y u)(rx:RelV x v)(fy:nY y=true)(fx:nY x=true):SeqAt.EqAt A s u v (eqV y x):=by
 cases y with
 |non=>
  cases ry
  cases x with
  |non=>cases rx;exact SeqAt.EqAt.same _
  |bl b=>cases rx;exact SeqAt.EqAt.none_bool b
  |int b=>obtain⟨t,rfl⟩:=rx;exact SeqAt.EqAt.none_int b t
  |str b=>obtain⟨t,rfl⟩:=rx;exact SeqAt.EqAt.none_str b t
  |_=>exact absurd (show false=true from fx) Bool.false_ne_true
 |bl a=>
  cases ry
  cases x with
  |non=>cases rx;exact SeqAt.EqAt.bool_none a
  |bl b=>cases rx;exact SeqAt.EqAt.bool_bool a b
  |int b=>obtain⟨t,rfl⟩:=rx;exact SeqAt.EqAt.bool_int a b t
  |str b=>obtain⟨t,rfl⟩:=rx;exact SeqAt.EqAt.bool_str a b t
  |_=>exact absurd (show false=true from fx) Bool.false_ne_true
 |int a=>
  obtain⟨t',rfl⟩:=ry
  cases x with
  |non=>cases rx;exact SeqAt.EqAt.int_none a t'
  |bl b=>cases rx;exact SeqAt.EqAt.int_bool a t' b
  |int b=>obtain⟨t,rfl⟩:=rx;exact SeqAt.EqAt.int_int a t' b t
  |str b=>obtain⟨t,rfl⟩:=rx;exact SeqAt.EqAt.int_str a t' b t
  |_=>exact absurd (show false=true from fx) Bool.false_ne_true
 |str a=>
  obtain⟨t',rfl⟩:=ry
  cases x with
  |non=>cases rx;exact SeqAt.EqAt.str_none a t'
  |bl b=>cases rx;exact SeqAt.EqAt.str_bool a t' b
  |int b=>obtain⟨t,rfl⟩:=rx;exact SeqAt.EqAt.str_int a t' b t
  |str b=>obtain⟨t,rfl⟩:=rx;exact SeqAt.EqAt.str_str a t' b t
  |_=>exact absurd (show false=true from fx) Bool.false_ne_true
 |_=>exact absurd (show false=true from fy) Bool.false_ne_true
def eqU(x:V)(u:Value):Bool:=match u with
 | .none=>eqV .non x
 | .bool b=>eqV (.bl b) x
 | .int i _=>eqV (.int i) x
 | .str z _=>eqV (.str z) x
 |_=>false
theorem Dv{x y:V}{u:Value}(r:RelV y u)(f:nY y=true):eqU x u=eqV y x:=by
 cases y with
 |non=>cases r;rfl
 |bl b=>cases r;rfl
 |int i=>obtain⟨t,rfl⟩:=r;rfl
 |str z=>obtain⟨t,rfl⟩:=r;rfl
 |_=>exact absurd (show false=true from f) Bool.false_ne_true
theorem yd{x:V}: ∀{xs:List V} {us:List Value},Vals xs us→xs.all nY=true→us.any (eqU x)=xs.any fun y=>eqV y x
 |_,_,.nil,_=>rfl
 |y::xs,u::us,.cons r t,f=>by
  rw[List.all_cons,Bool.and_eq_true] at f
  rw[List.any_cons,List.any_cons,Dv r f.1,yd t f.2]
theorem mX{A:Around}{s:Shared}{x:V}{v:Value}(rx:RelV x v)(fx:nY x=true): ∀{xs:List V} {us:List Value},Vals xs us→xs.all nY=true→∀u∈us,SeqAt.EqAt A s u v (eqU x u)
 |_,_,.nil,_=>fun u hu=>by cases hu
 |y::xs,u::us,.cons r t,f=>fun u' hu=>by
  rw[List.all_cons,Bool.and_eq_true] at f
  rcases List.mem_cons.mp hu with rfl|hu
  ·rw[Dv r f.1];exact ZC r rx f.1 fx
  ·exact mX rx fx t f.2 u' hu
def inV(x:V)(xs:List V):Bool:=xs.any fun y=>eqV y x
def rIn(K:PySem.W.Frag)(neg:Bool):R2:=fun x y H Q=>∃p xs,y= .ref p∧(SqL K H p xs∨SqT K H p xs)∧nY x=true∧xs.all nY=true∧Q (.bl (if neg then !inV x xs else inV x xs)) H
theorem S8:OpR X (compareOp .In) (rIn X.K false):=by
 intro pins s σ H x y v u Q I rx ry h
 obtain⟨p,xs,rfl,hq,fx,fs,q⟩:=h
 cases ry
 rcases hq with hq|hq
 ·obtain⟨its,r,pl,hz⟩:=I.list hq
  refine SeqAt.in_listAt (eqU x) pl.isList (fun w hw=>mX rx fx r fs w (by simpa using hw)) ⟨.bl _,H,I,rfl,?_⟩
  rw[show its.toArray.any (eqU x)=its.any (eqU x) by simp,yd r fs]
  exact q
 ·obtain⟨its,r,pl,hz⟩:=I.tuple hq
  refine SeqAt.in_tupleAt (eqU x) pl (fun w hw=>mX rx fx r fs w (by simpa using hw)) ⟨.bl _,H,I,rfl,?_⟩
  rw[show its.toArray.any (eqU x)=its.any (eqU x) by simp,yd r fs]
  exact q
theorem qO:OpR X (compareOp .NotIn) (rIn X.K true):=by
 intro pins s σ H x y v u Q I rx ry h
 obtain⟨p,xs,rfl,hq,fx,fs,q⟩:=h
 cases ry
 rcases hq with hq|hq
 ·obtain⟨its,r,pl,hz⟩:=I.list hq
  refine SeqAt.notIn_listAt (eqU x) pl.isList (fun w hw=>mX rx fx r fs w (by simpa using hw)) ⟨.bl _,H,I,rfl,?_⟩
  rw[show its.toArray.any (eqU x)=its.any (eqU x) by simp,yd r fs]
  exact q
 ·obtain⟨its,r,pl,hz⟩:=I.tuple hq
  refine SeqAt.notIn_tupleAt (eqU x) pl (fun w hw=>mX rx fx r fs w (by simpa using hw)) ⟨.bl _,H,I,rfl,?_⟩
  rw[show its.toArray.any (eqU x)=its.any (eqU x) by simp,yd r fs]
  exact q
theorem aV:Dn X (.builtin "len") (fun xs H Q=>∃p ys,xs=[.ref p]∧(SqL X.K H p ys∨SqT X.K H p ys)∧Q (.int ys.length) H):=by
 intro pins s σ H xs us Q I r h
 obtain⟨p,ys,rfl,hq,q⟩:=h
 obtain⟨u,rfl,rx⟩:=vals1 r
 cases rx
 have hn:=Jw
 rcases hq with hq|hq
 ·obtain⟨its,r',pl,hz⟩:=I.list hq
  have hlen:=r'.length
  exact Calls.call_len_list pl.isList (by simp only[List.size_toArray]<;>omega) ⟨.int ys.length,H,I.tok _,⟨s.toks+1,by rw[List.size_toArray,hlen]⟩,q⟩
 ·obtain⟨its,r',pl,hz⟩:=I.tuple hq
  have hlen:=r'.length
  exact len_tuple pl (by simp only[List.size_toArray]<;>omega) ⟨.int ys.length,H,I.tok _,⟨s.toks+1,by rw[List.size_toArray,hlen]⟩,q⟩
def tyV(K:PySem.W.Frag)(T:String)(x:V)(H:Hp):Prop:=match x with
 | .str _=>T="str"
 | .int _=>T="int"
 | .ref p=>(T="list"∧∃xs,SqL K H p xs)∨(T="tuple"∧∃o,K.lookup p=some o∧o.cls= .type "tuple"∧o.dict=none)∨
   (T="dict"∧((∃kvs,H p=some (.dK kvs))∨∃kvs,H p=some (.dT kvs)))∨(T="set"∧∃S n,H p=some (.set S n))
 |_=>False
theorem ZD{pins:List (Addr×Obj)}{σ:St}{H:Hp}{s:Shared}{T:String}{x:V}{v:Value}(I:Inv X pins σ H s)(r:RelV x v)(ty:tyV X.K T x H):
  s.TypeIs v T∧∀a,v= .ref a→∃ob,s.heap.get? a=some ob∧ob.dict=none:=by
 cases x with
 |str z=>
  obtain⟨t,rfl⟩:=r
  cases (show T="str" from ty)
  exact⟨typeIs_str s z t,fun _ e=>nomatch e⟩
 |int i=>
  obtain⟨t,rfl⟩:=r
  cases (show T="int" from ty)
  exact⟨typeIs_int s i t,fun _ e=>nomatch e⟩
 |ref p=>
  cases r
  rcases ty with⟨rfl,xs,hq⟩|⟨rfl,o,hk,hc,hd⟩|⟨rfl,hk⟩|⟨rfl,S,n,hk⟩
  ·obtain⟨its,_,pl,_⟩:=I.list hq
   refine⟨pl.isList.typeIs,fun a e=>?_⟩
   cases e
   obtain⟨o,n,e,c,hd,_⟩:=pl
   exact⟨o,e,hd⟩
  ·refine⟨⟨o,I.kIn p o hk,hc⟩,fun a e=>?_⟩
   cases e
   exact⟨o,I.kIn _ o hk,hd⟩
  ·have z: ∃o,s.heap.get? p=some o∧o.ExactDict:=by
    rcases hk with⟨kvs,hk⟩|⟨kvs,hk⟩
    ·obtain⟨_,_,_,_,o,_,_,e,ex,_⟩:=I.hok p _ hk
     exact⟨o,e,ex⟩
    ·obtain⟨_,_,_,_,o,_,_,e,ex,_⟩:=I.hok p _ hk
     exact⟨o,e,ex⟩
   obtain⟨o,e,ex⟩:=z
   refine⟨⟨o,e,ex.1⟩,fun a e2=>?_⟩
   cases e2
   exact⟨o,e,ex.2.1⟩
  ·obtain⟨o,_,_,_,e,ex,_⟩:=I.hok p _ hk
   refine⟨⟨o,e,ex.1⟩,fun a e2=>?_⟩
   cases e2
   exact⟨o,e,ex.2.1⟩
 |_=>exact False.elim ty
def tBM(K:PySem.W.Frag)(T:String)(r:V→List V→Hp→VK→Prop)(to:TE)(t:TA):TE:=fun σ H Q=>to σ H fun x H1=>tyV K T x H1∧t σ H1 fun xs H2=>r x xs H2 Q
variable{o e:Expr}{es:List Expr}{to:TE}{t:TA}{name:Str}{apos cpos:Pos}{T id:String}{r:V→List V→Hp→VK→Prop}
theorem jw(pa:PlainAttrs T)(slot:Slot T name id)(hty:typeOf (.builtin id)=pure (.type "method_descriptor"))(hm:MtR X id r)(ho:PE X o to)(ha:PA X (e::es) t)
  (hbase:attributeBase o name X.env (eval o X.env)=eval o X.env:=by rfl)
  (hfew:((backTo cpos (starEach (e::es) X.env)).all (fun x=> !x.1)&&(backToKw cpos (keywordEach [] X.env)).all (fun x=>x.1.isSome)
   &&decide ((e::es).length+([]:List Keyword).length+(if([]:List Keyword).isEmpty then 0 else 1)<30))=true:=by rfl)
  (hline:(apos.endLine==cpos.line)=true:=by rfl) (hs:starEach (e::es) X.env=(false,eval e X.env)::starEach es X.env:=by rfl) (hplain:(backTo cpos (starEach es X.env)).any (·.1)=false:=by rfl):
  PE X (.Call (.Attribute o name apos) (e::es) [] cpos) (tBM X.K T r to t):=by
 intro pins s σ H Q I h
 refine wpAny_Call_method_late hbase hfew hline rfl (thn (ho pins s σ H _ I h) fun v s1 ⟨x,H1,I1,r1,ty,q1⟩=>?_)
 obtain⟨h1,h2⟩:=ZD I1 r1 ty
 refine⟨T,id,pa,slot,hty,h1,h2,?_⟩
 have hA:=ha cpos pins s1 σ H1 _ I1 q1
 rw[hs] at hA⊢
 refine Calls.callWith_builtin (by show(false||(backTo cpos (starEach es X.env)).any (·.1))=false;rw[hplain]<;>rfl) (Calls.evalArgs_plain ?_)
 exact thn hA fun us s2 ⟨vs,H2,I2,r2,q2⟩=>hm pins s2 σ H2 x vs v us Q I2 r1 r2 q2
end
def MtM(X:Cx)(id:String)(r:V→List V→Hp→VK→Prop):Prop:=
 ∀(pins:List (Addr×Obj)) (s:Shared) (σ:St) (H:Hp) (x:V) (xs:List V) (v:Value) (us:List Value) (Q:VK),Inv X pins σ H s→RelV x v→Vals xs us→r x xs H Q→
  wpAny (model X.prog X.w) X.A (call (.builtin id) (v::us)) (EP X pins σ Q) X.xe s
theorem Vals.one: ∀{x:V} {us:List Value},Vals [x] us→∃u,us=[u]∧RelV x u
 |_,_,.cons r .nil=>⟨_,rfl,r⟩
theorem Vals.eraseIdx: ∀{xs:List V} {us:List Value} (i:Nat),Vals xs us→Vals (xs.eraseIdx i) (us.eraseIdx i)
 |_,_,_,.nil=> .nil
 |_,_,0,.cons _ t=>t
 |_,_,i+1,.cons r t=> .cons r (Vals.eraseIdx i t)
theorem Vals.rep{xs:List V}{us:List Value}(h:Vals xs us): ∀k:Nat,Vals (List.replicate k xs).flatten (List.replicate k us).flatten
 |0=> .nil
 |k+1=>by
  rw[List.replicate_succ,List.replicate_succ,List.flatten_cons,List.flatten_cons]
  exact Vals.append h (Vals.rep h k)
theorem Ig{α:Type}: ∀(l:List α) (i:Nat),(l.eraseIdx i).length≤l.length
 |[],_=>Nat.le_refl _
 |_::_,0=>Nat.le_succ _
 |_::r,i+1=>Nat.succ_le_succ (Ig r i)
theorem foldl_rep(its:List Value): ∀(k:Nat) (acc:List Value),
  List.foldl (fun x1 x2=>x1++x2) acc.toArray (List.replicate k its.toArray)=(acc++(List.replicate k its).flatten).toArray
 |0,acc=>by simp
 |k+1,acc=>by
  have e:acc.toArray++its.toArray=(acc++its).toArray:=by simp
  have e2:(acc++its)++(List.replicate k its).flatten=acc++(List.replicate (k+1) its).flatten:=by
   rw[List.replicate_succ,List.flatten_cons,List.append_assoc]
  rw[←e2,←foldl_rep its k (acc++its),←e,List.replicate_succ,List.foldl_cons]
section
variable{X:Cx}{pins:List (Addr×Obj)}{σ:St}{H:Hp}{s:Shared}{l b:Addr}{xs ys zs:List V}
theorem Inv.ZF{its its':List Value}{n:Nat}{f:Array Value→Array Value}{t':Nat}(I:Inv X pins σ H s)(hH:H l=some (.lst xs))
  (e:s.heap.get? l=some {cls:= .type "list",data:= .seq its.toArray n}) (hf:f its.toArray=its'.toArray) (hv:Vals ys its') (hz:ys.length≤sizeLine):
  Inv X pins σ (upd H l (.lst ys)) {s with heap:=s.heap.update l (Obj.mapSeq f),toks:=t'}:=by
 have q:=PySem.IsL.update e f
 rw[hf] at q
 refine I.write (x:=l) (e:=l) (by rw[hH];exact trivial) (.inl rfl) (fun b' u hb hu=>(Heap.get?_update_other s.heap (Obj.mapSeq f) (Ne.symm hb)).trans hu) ⟨_,q⟩ ?_
 exact⟨hz,its',_,hv,q⟩
theorem Inv.lnew{its:List Value}{t':Nat}(I:Inv X pins σ H s)(hv:Vals ys its)(hz:ys.length≤sizeLine):
  Inv X pins σ (upd H s.heap.objs.size (.lst ys)) {s with heap:=s.heap.push {cls:= .type "list",data:= .seq its.toArray},toks:=t'}:=
 I.laid (fun _ _ q=>Heap.get?_push_of_some _ q) (Nat.le_refl _) ⟨hz,its,0,hv,Heap.get?_push_size _ rfl⟩
theorem Inv.fresh(I:Inv X pins σ H s):H s.heap.objs.size=none:=I.hok.fresh (Nat.le_refl _)
theorem Inv.P0(I:Inv X pins σ H s)(hH:H l=some (.lst xs)):xs.length≤sizeLine∧∃(its:List Value) (n:Nat),Vals xs its∧xs.length=its.length∧s.heap.get? l=some {cls:= .type "list",data:= .seq its.toArray n}:=by
 obtain⟨z,its,n,r,e⟩:=I.hok l _ hH
 exact⟨z,its,n,r,r.length,e⟩
theorem Mx{n:Nat}(h:n≤sizeLine):Builtin.List.listTooLong n=false:=by
 unfold Builtin.List.listTooLong
 exact decide_eq_false (by omega)
end
section
variable{X:Cx}
def JD:V→List V→Hp→VK→Prop:=fun x vs H Q=>∃l xs y,x= .ref l∧vs=[y]∧H l=some (.lst xs)∧xs.length<sizeLine∧Q .non (upd H l (.lst (xs++[y])))
theorem fQ:MtM X "list.append" JD:=by
 intro pins s σ H x vs v us Q I rx rv h
 obtain⟨l,xs,y,rfl,rfl,hH,hz,q⟩:=h
 cases rx
 obtain⟨u,rfl,ru⟩:=rv.one
 obtain⟨z,its,n,r,hl,e⟩:=I.P0 hH
 refine call_meets F.slot_list_append ⟨_,e,rfl⟩ F.entry_list_append (F.args_list_append_2 _ _) (PySem.list_append l its.toArray n u (by rw[List.size_toArray];omega)) ⟨e,?_⟩
 refine⟨.non,_,I.ZF (its':=its++[u]) hH e (by simp) (r.append (.cons ru .nil)) ?_,rfl,q⟩
 rw[List.length_append,List.length_singleton]
 omega
def Xy:V→List V→Hp→VK→Prop:=fun x vs H Q=>∃l b xs zs,x= .ref l∧vs=[.ref b]∧H l=some (.lst xs)∧H b=some (.lst zs)∧xs.length+zs.length≤sizeLine∧Q .non (upd H l (.lst (xs++zs)))
theorem pZ:MtM X "list.extend" Xy:=by
 intro pins s σ H x vs v us Q I rx rv h
 obtain⟨l,b,xs,zs,rfl,rfl,hH,hB,hz,q⟩:=h
 cases rx
 obtain⟨u,rfl,ru⟩:=rv.one
 cases ru
 obtain⟨z,its,n,r,hl,e⟩:=I.P0 hH
 obtain⟨z2,its2,n2,r2,hl2,e2⟩:=I.P0 hB
 have hsz:its.toArray.size+its2.toArray.size≤sizeLine:=by rw[List.size_toArray,List.size_toArray];omega
 have Vs: ¬(!its.toArray.isEmpty&&Builtin.List.listTooLong (its.toArray.size+its2.toArray.size))=true:=by
  rw[Mx hsz,Bool.and_false]
  exact Bool.false_ne_true
 refine call_meets F.slot_list_extend ⟨_,e,rfl⟩ F.entry_list_extend (F.args_list_extend_2 _ _)
  (AutoSeq1.list_extend_list_list_0 l its.toArray n b its2.toArray n2 Vs (by rw[List.size_toArray];omega) (by omega)) ⟨e,e2,?_⟩
 refine⟨.non,_,I.ZF (its':=its++its2) hH e (by simp) (r.append r2) ?_,rfl,q⟩
 rw[List.length_append]
 omega
def ZG:V→List V→Hp→VK→Prop:=fun x vs H Q=>∃l xs i k y,x= .ref l∧vs=[.int i]∧H l=some (.lst xs)∧ -(2 ^ 63)≤i∧i<2 ^ 63∧seqIndex? i xs.length=some k∧xs[k]?=some y∧Q y (upd H l (.lst (xs.eraseIdx k)))
theorem Vt:MtM X "list.pop" ZG:=by
 intro pins s σ H x vs v us Q I rx rv h
 obtain⟨l,xs,i,k,y,rfl,rfl,hH,h1,h2,hk,hy,q⟩:=h
 cases rx
 obtain⟨u,rfl,ru⟩:=rv.one
 obtain⟨t,rfl⟩:=ru
 obtain⟨z,its,n,r,hl,e⟩:=I.P0 hH
 obtain⟨w,hw,rw'⟩:=r.get hy
 refine call_meets F.slot_list_pop ⟨_,e,rfl⟩ F.entry_list_pop (F.args_list_pop_2 _ _)
  (MeetsSeq.list_pop_at l its.toArray n i t k w (fitsIndex_both h1 h2) (by rw[List.size_toArray,←hl];exact hk) (by rw[←Array.getElem?_toList];exact hw) (by rw[List.size_toArray];omega)) ⟨e,?_⟩
 refine⟨y,_,I.ZF (its':=its.eraseIdx k) hH e ?_ (r.eraseIdx k) ?_,rw',q⟩
 ·show its.toArray.eraseIdxIfInBounds k=(its.eraseIdx k).toArray
  rw[List.eraseIdxIfInBounds_toArray]
 ·have:=Ig xs k
  omega
def rCat:R2:=fun x y H Q=>∃l b xs zs,x= .ref l∧y= .ref b∧H l=some (.lst xs)∧H b=some (.lst zs)∧xs.length+zs.length≤sizeLine∧∀p,H p=none→Q (.ref p) (upd H p (.lst (xs++zs)))
theorem jF:OpR X (binaryOp .Add) rCat:=by
 intro pins s σ H x y v u Q I rx ry h
 obtain⟨l,b,xs,zs,rfl,rfl,hH,hB,hz,q⟩:=h
 cases rx
 cases ry
 obtain⟨z,its,n,r,hl,e⟩:=I.P0 hH
 obtain⟨z2,its2,n2,r2,hl2,e2⟩:=I.P0 hB
 refine PySem.P.add_list e e2 ?_ (by rw[List.size_toArray,List.size_toArray];omega)
 have ea:its.toArray++its2.toArray=(its++its2).toArray:=by simp
 rw[ea]
 exact⟨.ref _,_,I.lnew (t':=s.toks) (r.append r2) (by rw[List.length_append];omega),rfl,q _ I.fresh⟩
def rRep:R2:=fun x y H Q=>∃l k xs,x= .ref l∧y= .int k∧H l=some (.lst xs)∧ -(2 ^ 63)≤k∧k<2 ^ 63∧xs.length * k.toNat≤sizeLine∧
 ∀p,H p=none→Q (.ref p) (upd H p (.lst (List.replicate k.toNat xs).flatten))
theorem len_rep{α:Type}(xs:List α)(k:Nat):(List.replicate k xs).flatten.length=k * xs.length:=by
 induction k with
 |zero=>simp
 |succ k ih=>rw[List.replicate_succ,List.flatten_cons,List.length_append,ih,Nat.succ_mul,Nat.add_comm]
theorem ZJ:OpR X (binaryOp .Mult) rRep:=by
 intro pins s σ H x y v u Q I rx ry h
 obtain⟨l,k,xs,rfl,rfl,hH,h1,h2,hz,q⟩:=h
 cases rx
 obtain⟨t,rfl⟩:=ry
 obtain⟨z,its,n,r,hl,e⟩:=I.P0 hH
 have hlen:its.toArray.size * k.toNat≤sizeLine:=by rw[List.size_toArray,←hl];exact hz
 have hcap: ¬its.toArray.size * k.toNat>(2 ^ 63 - 1) / 8:=by
  have:(sizeLine:Nat)≤(2 ^ 63 - 1) / 8:=by decide
  omega
 have hfit: ¬(!Builtin.List.listFitsIndex k)=true:=by
  rw[fitsIndex_both h1 h2]
  exact Bool.false_ne_true
 have Vs: ¬Builtin.List.listTooLong (its.toArray.size * k.toNat)=true:=by
  rw[Mx hlen]
  exact Bool.false_ne_true
 have hnew:List.foldl (fun x1 x2=>x1++x2) #[] (List.replicate (if its.toArray.isEmpty=true then 0 else k.toNat) its.toArray)=(List.replicate k.toNat its).flatten.toArray:=by
  have f0: ∀m:Nat,List.foldl (fun x1 x2=>x1++x2) #[] (List.replicate m its.toArray)=(List.replicate m its).flatten.toArray:=fun m=>by
   have:=foldl_rep its m []
   rw[List.nil_append] at this
   exact this
  rw[f0]
  cases its with
  |nil=>simp
  |cons a r'=>rw[if_neg (by simp)]
 refine wpAny_binaryOp_repeat_ref (T:="list") (U:="int") (by decide) ⟨_,e,rfl⟩ (fun s'=>typeIs_int s' k t) noFill_list_mul F.fills_int_mul F.slot_int_rmul repeat_list F.slot_int_index.lookup
  (call_meets F.slot_int_rmul (typeIs_int s k t) F.entry_int_rmul (F.args_int_rmul_2 _ _) (int___rmul___int_list k t l its.toArray n)
   ⟨e,rfl,⟨_,e,rfl⟩,call_meets F.slot_list_mul ⟨_,e,rfl⟩ F.entry_list_mul (F.args_list_mul_2 _ _) (AutoListH.list___mul___list_int_3 l its.toArray n k t hfit hcap Vs) ⟨e,?_⟩⟩)
 rw[hnew]
 exact⟨.ref _,_,I.lnew (t':=s.toks) (r.rep k.toNat) (by rw[len_rep,Nat.mul_comm];exact hz),rfl,q _ I.fresh⟩
end
section
variable{prog:Program}{w:World}{A:Around}{E:Value→Shared→Prop}{s:Shared}
set_option maxRecDepth 100000 in
end
section
variable{X:Cx}
end
theorem Vals.ints: ∀{ns:List Int} {us:List Value},Vals (ns.map V.int) us→IntsAre us ns
 |[],us,h=>by
  rw[List.map_nil] at h
  cases h
  exact IntsAre.nil
 |n::ns,us,h=>by
  rw[List.map_cons] at h
  cases h with
  |cons r t=>
   obtain⟨k,rfl⟩:=r
   exact IntsAre.cons n k (Vals.ints t)
theorem yg: ∀{us:List Value} {ns:List Int},IntsAre us ns→Vals (ns.map V.int) us
 |_,_,.nil=>by rw[List.map_nil];exact Paired.nil
 |_,_,.cons n t h=>by rw[List.map_cons];exact Paired.cons (show RelV (V.int n) (Value.int n t) from⟨t,rfl⟩) (yg h)
theorem Vals.bls: ∀{bs:List Bool} {us:List Value},Vals (bs.map V.bl) us→us=bs.map Value.bool
 |[],us,h=>by
  rw[List.map_nil] at h
  cases h
  rfl
 |b::bs,us,h=>by
  rw[List.map_cons] at h
  cases h with
  |cons r t=>
   cases r
   rw[Vals.bls t,List.map_cons]
theorem Vals.Xz{a:Addr}{us:List Value}(r:Vals [V.ref a] us):us=[Value.ref a]:=by
 cases r with
 |cons r t=>
  cases t
  cases r
  rfl
section
variable{prog:Program}{w:World}{A:Around}{E:Value→Shared→Prop}{s:Shared}{l:Addr}{its:List Value}{ns:List Int}{Q:Value→Shared→Prop}
end
section
variable{X:Cx}
def ZK(K:PySem.W.Frag):V→List V→Hp→VK→Prop:=fun x xs H Q=>∃(a:Addr) (ys:List V) (y:V) (j:Nat) (z:V),x=V.ref a∧xs=[y]∧SqL K H a ys∧nY y=true∧ys.all nY=true∧ys[j]?=some z∧eqV z y=true∧
 (∀(m:Nat) (z':V),m<j→ys[m]?=some z'→eqV z' y=false)∧Q (.int (j:Nat)) H
theorem Rz{ys:List V}(f:ys.all nY=true){j:Nat}{z:V}(h:ys[j]?=some z):nY z=true:=List.all_eq_true.mp f z (List.mem_of_getElem? h)
theorem Vu:MtR X "list.index" (ZK X.K):=by
 intro pins s σ H x xs v us Q I rx rxs h
 obtain⟨a,ys,y,j,z,rfl,rfl,hs,fy,fys,hz,hzj,hno,q⟩:=h
 cases rx
 cases rxs with
 |cons ry rt=>
  rename_i uy ut
  cases rt
  obtain⟨its,rv,⟨⟨cls,dd,data,sl⟩,n,ho,hc,hdn,hd⟩,hlen⟩:=I.list hs
  simp only at hc hd
  subst hc hd
  obtain⟨u,hu,ru⟩:=rv.get hz
  obtain⟨hjl,hje⟩:=List.getElem?_eq_some_iff.mp hu
  have hvl:=rv.length
  have hj:j<its.toArray.size:=by simpa using hjl
  have hsl:=sizeLine_eq
  refine call_meets PySem.F.slot_list_index ⟨_,ho,rfl⟩ PySem.F.entry_list_index (PySem.F.args_list_index_2 _ _)
   (SeqAt.list_indexAt a its.toArray n dd sl uy (eqU y) j hj (by omega) ?_ ?_) ⟨ho,fun u' hu'=>mX ry fy rv fys u' (by simpa using hu'),?_⟩
  ·have e1:its.toArray[j]=u:=by simpa using hje
   rw[e1,Dv ru (Rz fys hz)]
   exact hzj
  ·intro m hm hmj
   have hml:m<its.length:=by simpa using hm
   have hmy:m<ys.length:=by omega
   have hy':ys[m]?=some ys[m]:=List.getElem?_eq_getElem hmy
   obtain⟨u2,hu2,ru2⟩:=rv.get hy'
   obtain⟨_,hme⟩:=List.getElem?_eq_some_iff.mp hu2
   have e1:its.toArray[m]=u2:=by simpa using hme
   rw[e1,Dv ru2 (Rz fys hy')]
   exact hno m _ hmj hy'
  ·exact⟨.int (j:Nat),H,I.tok _,⟨_,rfl⟩,q⟩
end
theorem Vv{prog:Program}{w:World}{A:Around}{E:Value→Shared→Prop}{s:Shared}{l:Addr}{items:Array Value}{Q:Value→Shared→Prop}(hl:s.heap.IsList l items)
  (h: ∀s₂:Shared,s₂={s with heap:=s.heap.push {cls:= .type "list_iterator",data:= .fields #[.ref l,.int 0 0]}}→
   (s₂.heap.IsListIter s.heap.objs.size l 0∧s₂.heap.IsList l items)→l≠s.heap.objs.size→Q (.ref s.heap.objs.size) s₂):wpAny (model prog w) A (pyIter (.ref l)) Q E s:=by
 have hlt:l<s.heap.objs.size:=by obtain⟨_,e,_⟩:=hl;exact Heap.lt_size e
 exact wpAny_pyIter_list hl (h _ rfl ⟨⟨_,Heap.get?_push_size _ rfl,rfl,rfl⟩,hl.push _⟩ (Nat.ne_of_lt hlt))
theorem Mz{prog:Program}{w:World}{A:Around}{bs:List Bool}{its:List Value}(e:its=bs.map Value.bool):
  TruthOf prog w A (fun i v=>its.toArray[i]?=some v) (fun i=>bs.getD i false):=fun i v s Q E hv hq=>by
 have hv':its[i]?=some v:=by simpa using hv
 rw[e,List.getElem?_map] at hv'
 obtain⟨b,hb,rfl⟩:=Option.map_eq_some_iff.mp hv'
 have hg:bs.getD i false=b:=by rw[List.getD_eq_getElem?_getD,hb]<;>rfl
 have hq':Q (bs.getD i false) s:=hq
 rw[hg] at hq'
 exact wpAny_truthy_bool hq'
theorem all_range: ∀bs:List Bool,(List.range bs.length).all (fun i=>bs.getD i false)=bs.all id
 |[]=>rfl
 |b::bs=>by
  rw[List.length_cons,List.range_succ_eq_map,List.all_cons,List.all_map,List.all_cons,←all_range bs]
  all_goals rfl
section
variable{X:Cx}
def rAll(K:PySem.W.Frag):List V→Hp→VK→Prop:=fun vs H Q=>∃(a:Addr) (bs:List Bool),vs=[V.ref a]∧SqL K H a (bs.map V.bl)∧Q (.bl (bs.all id)) H
theorem Vw(hc:X.calm=true):Dn X (.builtin "all") (rAll X.K):=by
 intro pins s σ H vs us Q I r h
 obtain⟨a,bs,rfl,hs,q⟩:=h
 obtain⟨its,rv,hl,_⟩:=I.list hs
 rw[Vals.Xz r]
 have hb:=rv.bls
 refine call_all_walk (Vv hl.isList fun s₂ e2 st hne=>?_)
 subst e2
 refine⟨_,_,_,_,_,_,_,rfl,Walks.list (A:=X.A.in1) (I.ok.hd hc) _ a hne its.toArray,st,Mz hb,fun h' tk hk=>?_⟩
 refine⟨.bl _,H,I.kept fun b o eo=>hk b o (fun hmem=>?_) (Heap.get?_push_of_some _ eo),?_,q⟩
 ·rcases List.mem_cons.mp hmem with e1|hmem
  ·exact absurd (e1 ▸ Heap.lt_size eo) (Nat.lt_irrefl _)
  ·cases hmem
 ·show Value.bool _=Value.bool _
  rw[←all_range,hb,List.size_toArray,List.length_map]
end
mutual
inductive Dp(K:PySem.W.Frag)(H:Hp):V→PyData→Prop
 |non:Dp K H .non .none
 |bl (b:Bool):Dp K H (.bl b) (.bool b)
 |int (i:Int):Dp K H (.int i) (.int i)
 |str (x:Str):Dp K H (.str x) (.str x)
 |lst {a:Addr} {xs:List V} {ds:List PyData}:SqL K H a xs→Dy K H xs ds→Dp K H (.ref a) (.list ds)
 |tup {a:Addr} {xs:List V} {ds:List PyData}:SqT K H a xs→Dy K H xs ds→Dp K H (.ref a) (.tuple ds)
inductive Dy(K:PySem.W.Frag)(H:Hp):List V→List PyData→Prop
 |nil:Dy K H [] []
 |cons {v:V} {vs:List V} {d:PyData} {ds:List PyData}:Dp K H v d→Dy K H vs ds→Dy K H (v::vs) (d::ds)
end
section
variable{X:Cx}{pins:List (Addr×Obj)}{σ:St}{H:Hp}{s:Shared}
mutual
theorem Dp.reads(I:Inv X pins σ H s): ∀(d:PyData) (v:V) (u:Value),Dp X.K H v d→RelV v u→∃as,Reads s.heap u d as
 | .none,_,_,h,r=>by
  cases h
  cases r
  exact⟨_,Reads.none⟩
 | .bool b,_,_,h,r=>by
  cases h
  cases r
  exact⟨_,Reads.bool b⟩
 | .int i,_,_,h,r=>by
  cases h
  obtain⟨t,rfl⟩:=r
  exact⟨_,Reads.int i t⟩
 | .str x,_,_,h,r=>by
  cases h
  obtain⟨t,rfl⟩:=r
  exact⟨_,Reads.str x t⟩
 | .list ds,_,_,h,r=>by
  cases h with
  |lst hs ha=>
   cases r
   obtain⟨its,rv,⟨o,n,ho,hc,_,hd⟩,_⟩:=I.list hs
   obtain⟨as,hr⟩:=Dp.readsAll I ds _ its ha rv
   exact⟨_,Reads.list ho hc hd hr⟩
 | .tuple ds,_,_,h,r=>by
  cases h with
  |tup hs ha=>
   cases r
   obtain⟨its,rv,⟨o,ho,hc,n,hd⟩,_⟩:=I.tuple hs
   obtain⟨as,hr⟩:=Dp.readsAll I ds _ its ha rv
   exact⟨_,Reads.tuple ho hc hd hr⟩
 | .dict _,_,_,h,_=>by cases h
theorem Dp.readsAll(I:Inv X pins σ H s): ∀(ds:List PyData) (vs:List V) (us:List Value),Dy X.K H vs ds→Vals vs us→∃as,ReadsAll s.heap us ds as
 |[],_,_,h,r=>by
  cases h
  cases r
  exact⟨_,ReadsAll.nil⟩
 |d::ds,_,_,h,r=>by
  cases h with
  |cons h1 h2=>
   cases r with
   |cons r1 r2=>
    obtain⟨as,q1⟩:=Dp.reads I d _ _ h1 r1
    obtain⟨bs,q2⟩:=Dp.readsAll I ds _ _ h2 r2
    exact⟨_,ReadsAll.cons q1 q2⟩
end
end
section
variable{X:Cx}
def rEqD(K:PySem.W.Frag):R2:=fun x y H Q=>∃d e,Dp K H x d∧Dp K H y e∧SeqAt.shaped d=true∧SeqAt.shaped e=true∧Q (.bl (PyData.eqv d e)) H
def rNeD(K:PySem.W.Frag):R2:=fun x y H Q=>∃d e,Dp K H x d∧Dp K H y e∧SeqAt.shaped d=true∧SeqAt.shaped e=true∧Q (.bl (!PyData.eqv d e)) H
theorem Vx(hu:X.A.units+64<cLine):OpR X (compareOp .Eq) (rEqD X.K):=by
 intro pins s σ H x y v u Q I rx ry h
 obtain⟨d,e,hd,he,sd,se,q⟩:=h
 obtain⟨as,r1⟩:=Dp.reads I d x v hd rx
 obtain⟨bs,r2⟩:=Dp.reads I e y u he ry
 exact SeqAt.compareEq_shaped r1 r2 sd se hu ⟨.bl _,H,I,rfl,q⟩
theorem ZL(hu:X.A.units+64<cLine):OpR X (compareOp .NotEq) (rNeD X.K):=by
 intro pins s σ H x y v u Q I rx ry h
 obtain⟨d,e,hd,he,sd,se,q⟩:=h
 obtain⟨as,r1⟩:=Dp.reads I d x v hd rx
 obtain⟨bs,r2⟩:=Dp.reads I e y u he ry
 exact SeqAt.compareNe_shaped r1 r2 sd se hu ⟨.bl _,H,I,rfl,q⟩
end
abbrev Vy(h:Heap)(c:Addr)(v:Option Value):Prop:=h.IsCell c v
def relS(scope sc:Scope):Scope:=
 {scope with names:=scope.names.map fun(n,k)=>if(k== .free&&sc.kind== .function&&sc.names.lookup n==some .cell) then(n,.cell) else(n,k)}
def dw(cells:List (Str×Addr)):List (Str×NameKind)→List (Str×Addr)→List (Str×Addr)
 |[],acc=>acc
 |(n,k)::r,acc=>if k== .free then dw cells r ((n,(cells.lookup n).getD 0)::acc) else dw cells r acc
theorem yh(env:Env)(f:Str×NameKind→List (Str×Addr)→Sem (ForInStep (List (Str×Addr))))
  (hf: ∀n k c,f (n,k) c=if k== .free then(do let a←cellOf env n;pure (.yield ((n,a)::c))) else pure (.yield c)):
  ∀(names:List (Str×NameKind)) (acc:List (Str×Addr)),(∀y∈names,y.2= .free→∃c,env.cells.lookup y.1=some c)→forIn names acc f=pure (dw env.cells names acc)
 |[],acc,_=>by rw[List.forIn_nil];rfl
 |(n,k)::r,acc,h=>by
  rw[List.forIn_cons,hf]
  have ih:=fun acc=>yh env f hf r acc fun y hy=>h y (List.mem_cons_of_mem _ hy)
  unfold dw
  by_cases hk:(k==NameKind.free)=true
  ·rw[if_pos hk,if_pos hk]
   obtain⟨c,hc⟩:=h (n,k) List.mem_cons_self (by simpa using hk)
   have e:cellOf env n=pure c:=by unfold cellOf;rw[hc]
   rw[e]
   have e2:(env.cells.lookup n).getD 0=c:=by rw[hc];rfl
   rw[e2]
   exact ih _
  ·rw[if_neg hk,if_neg hk]
   exact ih _
theorem Dz{scope:Scope}{env:Env}(h: ∀y∈scope.names,y.2= .free→∃c,env.cells.lookup y.1=some c):closureFor scope env=pure (dw env.cells scope.names []):=by
 simp only[closureFor]
 rw[yh env _ (fun n k c=>rfl) scope.names [] h]
 rfl
theorem mem_lookup{α:Type}: ∀{l:List (Str×α)} {n:Str} {c:α},(n,c)∈l→∃c',l.lookup n=some c'
 |(k,v)::r,n,c,h=>by
  rw[List.lookup_cons]
  cases hb:n==k with
  |true=>exact⟨_,rfl⟩
  |false=>
   rcases List.mem_cons.mp h with e|h
   ·cases e;simp at hb
   ·exact mem_lookup h
theorem lD{cells:List (Str×Addr)}: ∀{names:List (Str×NameKind)} {acc:List (Str×Addr)} {n:Str} {c:Addr},(n,c)∈dw cells names acc→(n,c)∈acc∨((n,.free)∈names∧c=(cells.lookup n).getD 0)
 |[],_,_,_,h=> .inl h
 |(m,k)::r,acc,n,c,h=>by
  unfold dw at h
  split at h
  ·rename_i hk
   have hk:k= .free:=by simpa using hk
   rcases lD h with h|⟨h1,h2⟩
   ·rcases List.mem_cons.mp h with e|h
    ·cases e;exact .inr ⟨hk ▸ List.mem_cons_self,rfl⟩
    ·exact .inl h
   ·exact .inr ⟨List.mem_cons_of_mem _ h1,h2⟩
  ·rcases lD h with h|⟨h1,h2⟩
   ·exact .inl h
   ·exact .inr ⟨List.mem_cons_of_mem _ h1,h2⟩
theorem uc{cells:List (Str×Addr)}: ∀{names:List (Str×NameKind)} {acc:List (Str×Addr)} {p:Str×Addr},p∈acc→p∈dw cells names acc
 |[],_,_,h=>h
 |(m,k)::r,acc,p,h=>by
  unfold dw
  split
  ·exact uc (List.mem_cons_of_mem _ h)
  ·exact uc h
theorem nZ{cells:List (Str×Addr)}: ∀{names:List (Str×NameKind)} {acc:List (Str×Addr)} {n:Str},(n,.free)∈names→(n,(cells.lookup n).getD 0)∈dw cells names acc
 |(m,k)::r,acc,n,h=>by
  unfold dw
  rcases List.mem_cons.mp h with e|h
  ·cases e
   exact uc List.mem_cons_self
  ·split
   ·exact nZ h
   ·exact nZ h
theorem gJ: ∀{names:List (Str×NameKind)} {h:Heap} {acc:List (Str×Addr)} {x:Str} {c:Addr},(x,c)∈cellsFrom h.objs.size names acc→
  (x,c)∈acc∨((x,.cell)∈names∧h.objs.size≤c∧Vy (pushCells h names) c none)
 |[],_,_,_,_,h=> .inl h
 |(n,k)::r,h,acc,x,c,hm=>by
  unfold cellsFrom at hm
  unfold pushCells
  split at hm
  ·rename_i hk
   rw[if_pos hk]
   have hk:k= .cell:=by simpa using hk
   rw[←Heap.size_push h {cls:= .type "cell",data:= .cell none}] at hm
   rcases gJ hm with hm|⟨h1,h2,h3⟩
   ·rcases List.mem_cons.mp hm with e|hm
    ·cases e
     exact .inr ⟨hk ▸ List.mem_cons_self,Nat.le_refl _,_,pushCells_keeps r _ _ _ (Heap.get?_push_size _ rfl),rfl⟩
    ·exact .inl hm
   ·rw[Heap.size_push] at h2
    exact .inr ⟨List.mem_cons_of_mem _ h1,Nat.le_of_succ_le h2,h3⟩
  ·rename_i hk
   rw[if_neg hk]
   rcases gJ hm with hm|⟨h1,h2,h3⟩
   ·exact .inl hm
   ·exact .inr ⟨List.mem_cons_of_mem _ h1,h2,h3⟩
theorem vK: ∀{names:List (Str×NameKind)} {n:Nat} {acc:List (Str×Addr)} {p:Str×Addr},p∈acc→p∈cellsFrom n names acc
 |[],_,_,_,h=>h
 |(m,k)::r,n,acc,p,h=>by
  unfold cellsFrom
  split
  ·exact vK (List.mem_cons_of_mem _ h)
  ·exact vK h
theorem zM: ∀{names:List (Str×NameKind)} {n:Nat} {acc:List (Str×Addr)} {x:Str},(x,.cell)∈names→∃c,(x,c)∈cellsFrom n names acc
 |(m,k)::r,n,acc,x,h=>by
  unfold cellsFrom
  rcases List.mem_cons.mp h with e|h
  ·cases e
   exact⟨n,vK List.mem_cons_self⟩
  ·split
   ·exact zM h
   ·exact zM h
theorem zN: ∀{names:List (Str×NameKind)} {h:Heap} {acc:List (Str×Addr)} {x y:Str} {c:Addr},(∀p∈acc,p.2<h.objs.size)→(∀x y c,(x,c)∈acc→(y,c)∈acc→x=y)→
  (x,c)∈cellsFrom h.objs.size names acc→(y,c)∈cellsFrom h.objs.size names acc→x=y
 |[],_,_,_,_,_,_,hi,h1,h2=>hi _ _ _ h1 h2
 |(n,k)::r,h,acc,x,y,c,hl,hi,h1,h2=>by
  unfold cellsFrom at h1 h2
  split at h1
  ·rename_i hk
   rw[if_pos hk] at h2
   rw[←Heap.size_push h {cls:= .type "cell",data:= .cell none}] at h1 h2
   refine zN (h:=h.push _) (fun p hp=>?_) (fun x y c a b=>?_) h1 h2
   ·rw[Heap.size_push]
    rcases List.mem_cons.mp hp with rfl|hp
    ·exact Nat.lt_succ_self _
    ·exact Nat.lt_succ_of_lt (hl p hp)
   ·rcases List.mem_cons.mp a with e|a<;>rcases List.mem_cons.mp b with e'|b
    ·cases e;cases e';rfl
    ·cases e;exact absurd (hl _ b) (Nat.lt_irrefl _)
    ·cases e';exact absurd (hl _ a) (Nat.lt_irrefl _)
    ·exact hi _ _ _ a b
  ·rename_i hk
   rw[if_neg hk] at h2
   exact zN hl hi h1 h2
theorem MF{M:Model}{A:Around}{E:Value→Shared→Prop}{s:Shared}{scope:Scope}{globals:Addr}{closure:List (Str×Addr)}{qual:Str}{func:Option Addr}{code:Value}{around:Env}{builtins:Addr}{Q:Env→Shared→Prop}
  (h:Q (newEnv scope s.heap.objs.size globals (cellsFrom (s.heap.objs.size+1) scope.names closure) qual func code (some around) builtins)
   {s with heap:=pushCells (s.heap.push {cls:= .type "dict",data:= .dict #[]}) scope.names}):
  wpAny M A (newFunctionEnv scope globals closure [] qual func code (some around) builtins) Q E s:=by
 simp only[newFunctionEnv,Option.isSome_some,if_true]
 refine wpAny_bind (wpAny_alloc ?_)
 refine wpAny_bind (wpAny_layCells _ (fun n k c=>rfl) scope.names closure _ _ ?_)
 rw[show({s with heap:=s.heap.push {cls:= .type "dict",data:= .dict #[]}}:Shared).heap.objs.size=s.heap.objs.size+1 from Heap.size_push ..]
 rw[List.forIn_nil]
 exact wpAny_bind (wpAny_pure (wpAny_pure h))
theorem ud{sc:Scope}: ∀{names:List (Str×NameKind)} {x:Str} {k:NameKind},
  (names.map fun(n,k)=>if(k==NameKind.free&&sc.kind== .function&&sc.names.lookup n==some .cell) then(n,NameKind.cell) else(n,k)).lookup x=some k→
  ∃k',names.lookup x=some k'∧(k=k'∨(k'= .free∧k= .cell))
 |[],_,_,h=>by simp at h
 |(n,k₀)::r,x,k,h=>by
  have ih:= @ud sc r x k
  have h':List.lookup x ((if(k₀==NameKind.free&&sc.kind== .function&&sc.names.lookup n==some .cell)=true then(n,NameKind.cell) else(n,k₀))::(r.map _))=some k:=h
  cases hx:x==n with
  |true=>
   simp only[List.lookup_cons,hx]
   by_cases hc:(k₀==NameKind.free&&sc.kind== .function&&sc.names.lookup n==some .cell)=true
   ·rw[if_pos hc] at h'
    simp only[List.lookup_cons,hx] at h'
    cases h'
    simp only[Bool.and_eq_true,beq_iff_eq] at hc
    exact⟨k₀,rfl,.inr ⟨hc.1.1,rfl⟩⟩
   ·rw[if_neg hc] at h'
    simp only[List.lookup_cons,hx] at h'
    cases h'
    exact⟨_,rfl,.inl rfl⟩
  |false=>
   simp only[List.lookup_cons,hx]
   by_cases hc:(k₀==NameKind.free&&sc.kind== .function&&sc.names.lookup n==some .cell)=true
   ·rw[if_pos hc] at h'
    simp only[List.lookup_cons,hx] at h'
    exact ih h'
   ·rw[if_neg hc] at h'
    simp only[List.lookup_cons,hx] at h'
    exact ih h'
structure MJ(N:List Str)(sc scope:Scope)(own:List (Str×Nat)):Prop where
 kind:scope.kind= .function
 uniq: ∀y∈scope.names,scope.names.lookup y.1=some y.2
 ix: ∀p∈own,N[p.2]?=some p.1
 free: ∀y∈scope.names,y.2= .free→sc.names.lookup y.1=some .cell∨sc.names.lookup y.1=some .free
 own: ∀y∈scope.names,y.2= .local∨y.2= .cell→y.1∈own.map (·.1)∨y.1∉N
def wipe(σ:St):List Nat→St
 |[]=>σ
 |v::vs=>(wipe σ vs).set v none
theorem ug(σ:St): ∀vs:List Nat,(wipe σ vs).length=σ.length
 |[]=>rfl
 |v::vs=>by unfold wipe;rw[List.length_set,ug σ vs]
theorem zO{σ:St}{i:Nat}{x:V}: ∀{vs:List Nat},(wipe σ vs)[i]?=some (some x)→σ[i]?=some (some x)∧i∉vs
 |[],h=>⟨h,by simp⟩
 |v::vs,h=>by
  unfold wipe at h
  by_cases hi:v=i
  ·subst hi
   by_cases hv:v<(wipe σ vs).length
   ·rw[List.getElem?_set_self hv] at h;cases h
   ·rw[List.getElem?_eq_none (by simpa using hv)] at h;cases h
  ·rw[List.getElem?_set_ne hi] at h
   obtain⟨h1,h2⟩:=zO h
   exact⟨h1,by simp only[List.mem_cons,not_or];exact⟨fun e=>hi e.symm,h2⟩⟩
abbrev Cx.blk(X:Cx)(s:Shared)(H:Hp)(scope:Scope)(cenv:Env)(fp:List Addr):Cx:={X with s_0:=s,H_0:=H,env:=cenv,outer:=X.stack,ex:=fp,fn:=fun x=>scope.names.lookup x==some .cell,pn:=[],xe:=fun _ _=>False}
section
variable{X:Cx}{pins:List (Addr×Obj)}{σ:St}{H:Hp}{s:Shared}
theorem MK{scope:Scope}{own:List (Str×Nat)}{fp:List Addr}(I:Inv X pins σ H s)(ok:MJ X.N X.env.scope scope own)(hN:X.N.Nodup)(hfp: ∀b∈fp,zJ X pins H b∧b<s.heap.objs.size):
  Inv (X.blk s H scope (compEnvC scope (cellsFrom (s.heap.objs.size+1) scope.names (dw X.env.cells scope.names [])) s.heap.objs.size X.env) fp) [] (wipe σ (own.map (·.2))) H {s with heap:=pushCells (s.heap.push {cls:= .type "dict",data:= .dict #[]}) scope.names}:=by
 have hfree: ∀y∈scope.names,y.2= .free→∃c,X.env.cells.lookup y.1=some c:=fun y hy e=>by
  rcases ok.free y hy e with k|k
  ·exact I.ok.has _ (.inl k)
  ·exact I.ok.has _ (.inr k)
 generalize MN:compEnvC scope (cellsFrom (s.heap.objs.size+1) scope.names (dw X.env.cells scope.names [])) s.heap.objs.size X.env=cenv
 have kp: ∀b o,s.heap.get? b=some o→(pushCells (s.heap.push {cls:= .type "dict",data:= .dict #[]}) scope.names).get? b=some o:=fun b o e=>pushCells_keeps _ _ _ _ (Heap.get?_push_of_some _ e)
 have hL:cenv.locals=s.heap.objs.size:=by rw[←MN];rfl
 have hcl:cenv.cells=cellsFrom (s.heap.objs.size+1) scope.names (dw X.env.cells scope.names []):=by rw[←MN];rfl
 have hsc:cenv.scope=relS scope X.env.scope:=by rw[←MN];rfl
 rw[←Heap.size_push s.heap {cls:= .type "dict",data:= .dict #[]}] at hcl
 have cm: ∀{y c},(y,c)∈dw X.env.cells scope.names []→X.env.cells.lookup y=some c∧c<s.heap.objs.size:=fun{y c} hm=>by
  rcases lD hm with hm|⟨h1,rfl⟩
  ·cases hm
  ·obtain⟨c,hc⟩:=hfree _ h1 rfl
   rw[hc]
   obtain⟨w,z⟩:=I.cell _ _ hc
   exact⟨rfl,z.lt⟩
 have mem: ∀{y c},cenv.cells.lookup y=some c→(X.env.cells.lookup y=some c∧c<s.heap.objs.size)∨(s.heap.objs.size+1≤c∧Vy (pushCells (s.heap.push {cls:= .type "dict",data:= .dict #[]}) scope.names) c none):=fun{y c} e=>by
  rw[hcl] at e
  rcases gJ (PySem.mem_of_lookup e) with hm|⟨_,h2,h3⟩
  ·exact .inl (cm hm)
  ·rw[Heap.size_push] at h2;exact .inr ⟨h2,h3⟩
 have look: ∀{y},scope.names.lookup y=some .free→∃c,cenv.cells.lookup y=some c∧X.env.cells.lookup y=some c:=fun{y} hl=>by
  have hy:(y,NameKind.free)∈scope.names:=PySem.mem_of_lookup hl
  obtain⟨c',e'⟩:=mem_lookup (vK (names:=scope.names) (n:=(s.heap.push {cls:= .type "dict",data:= .dict #[]}).objs.size) (nZ (cells:=X.env.cells) (acc:=[]) hy))
  rw[←hcl] at e'
  refine⟨c',e',?_⟩
  rw[hcl] at e'
  rcases gJ (PySem.mem_of_lookup e') with hm|⟨h1,_,_⟩
  ·exact(cm hm).1
  ·have:=ok.uniq _ h1
   rw[hl] at this;cases this
 have okB:(X.blk s H scope cenv fp).Ok:=by
  refine⟨I.ok.mod,by show cenv.scope.kind=_;rw[hsc];exact ok.kind,by show cenv.globals=_;rw[←MN];exact I.ok.glob,by show cenv.builtins=_;rw[←MN];exact I.ok.blt,by show s.heap.objs.size≤cenv.locals;rw[hL];exact Nat.le_refl _,
   fun y z c e1 e2=>?_,fun y hy=>?_,fun y c z e=>?_,I.ok.hd,I.ok.frames,.inl rfl,fun b hb=>⟨?_,fun y c e z=>?_⟩,I.bs,Nat.le_trans I.ok.bsz I.sz,fun b o e hb=>?_,fun b hb z=>?_,I.stack,I.Ju⟩
  ·have e1:cenv.cells.lookup y=some c:=e1
   have e2:cenv.cells.lookup z=some c:=e2
   rw[hcl] at e1 e2
   refine zN (fun p hp=>?_) (fun y z c a b=>I.ok.inj y z c (cm a).1 (cm b).1) (PySem.mem_of_lookup e1) (PySem.mem_of_lookup e2)
   rw[Heap.size_push]
   exact Nat.lt_succ_of_lt (cm (y:=p.1) (c:=p.2) hp).2
  ·show∃c,cenv.cells.lookup y=some c
   have key: ∀k,cenv.kindOf y=some k→(k= .cell∨k= .free)→∃c,cenv.cells.lookup y=some c:=fun k hk hk'=>by
    unfold Env.kindOf at hk
    rw[hsc] at hk
    obtain⟨k',e,r⟩:=ud hk
    have:k'= .cell∨k'= .free:=by
     rcases r with rfl|⟨rfl,_⟩
     ·exact hk'
     ·exact .inr rfl
    rcases this with rfl|rfl
    ·obtain⟨c,hm⟩:=zM (n:=(s.heap.push {cls:= .type "dict",data:= .dict #[]}).objs.size) (acc:=dw X.env.cells scope.names []) (PySem.mem_of_lookup e)
     obtain⟨c',e'⟩:=mem_lookup hm
     exact⟨c',by rw[hcl];exact e'⟩
    ·obtain⟨c,h1,_⟩:=look e
     exact⟨c,h1⟩
   rcases hy with hy|hy
   ·exact key _ hy (.inl rfl)
   ·exact key _ hy (.inr rfl)
  ·have z:(scope.names.lookup y==some NameKind.cell)=true:=z
   have z:scope.names.lookup y=some .cell:=by simpa using z
   have e:cenv.cells.lookup y=some c:=e
   rw[hcl] at e
   rcases gJ (PySem.mem_of_lookup e) with hm|⟨_,h2,_⟩
   ·rcases lD hm with hm|⟨h1,_⟩
    ·cases hm
    ·have q:=ok.uniq _ h1
     rw[z] at q;cases q
   ·rw[Heap.size_push] at h2
    exact Nat.le_of_succ_le h2
  ·show b≠cenv.locals
   rw[hL];exact Nat.ne_of_lt (hfp b hb).2
  ·have e:cenv.cells.lookup y=some c:=e
   rcases mem e with⟨h1,_⟩|⟨h1,_⟩
   ·exact(hfp b hb).1.2.2.2.2.1 y c h1 z
   ·have h2:s.heap.objs.size+1≤b:=by rw[←z];exact h1
    exact absurd (Nat.lt_of_lt_of_le (hfp b hb).2 (Nat.le_of_succ_le h2)) (Nat.lt_irrefl _)
  ·rcases(hfp b hb).1.2.2.2.1 with z|z
   ·exact I.ok.U9 b o e z
   ·exact absurd (Nat.lt_of_lt_of_le (Heap.lt_size e) (Nat.le_trans I.ok.bsz z)) (Nat.lt_irrefl _)
  ·rcases List.mem_cons.mp (I.Pr b z) with z|z
   ·exact(hfp b hb).1.2.1 z
   ·exact(hfp b hb).1.2.2.1 z
 refine⟨okB,rfl,I.bare,Un.kept kp,⟨fun _=>none,?_,fun i y av e1 e2 e3=>?_⟩,fun y c e=>?_,?_,fun y c e=>?_,fun p hp=>?_,I.hok.kept kp,by rw[ug];exact I.len⟩
 ·show Heap.Ns _ cenv.locals _
  rw[hL]
  exact Heap.Ns.keeps (Heap.Ns.new ..) fun b o e=>pushCells_keeps _ _ _ _ e
 ·obtain⟨e2,hne⟩:=zO e2
  have hfr:scope.names.lookup y=some .free∧(cenv.kindOf y=some .cell∨cenv.kindOf y=some .free):=by
   have key: ∀k,cenv.scope.names.lookup y=some k→k= .local∨k= .cell∨k= .free→scope.names.lookup y=some .free∧(cenv.kindOf y=some .cell∨cenv.kindOf y=some .free):=fun k hk hk'=>by
    have hk0:=hk
    rw[hsc] at hk
    obtain⟨k',e,r⟩:=ud hk
    have no: ¬(k'= .local∨k'= .cell):=fun hh=>by
     rcases ok.own _ (PySem.mem_of_lookup e) hh with e'|e'
     ·obtain⟨p,hp,hpy⟩:=List.mem_map.mp e'
      have e3:=ok.ix p hp
      have:p.1=y:=hpy
      rw[this] at e3
      exact hne (List.mem_map.mpr ⟨p,hp,Dh hN e3 e1⟩)
     ·exact e' (List.mem_of_getElem? e1)
    rcases r with rfl|⟨rfl,rfl⟩
    ·rcases hk' with rfl|rfl|rfl
     ·exact absurd (.inl rfl) no
     ·exact absurd (.inr rfl) no
     ·exact⟨e,.inr hk0⟩
    ·exact⟨e,.inl hk0⟩
   have e3:Vis cenv.scope y:=e3
   rcases e3 with e3|e3|e3
   ·exact key _ e3 (.inl rfl)
   ·exact key _ e3 (.inr (.inl rfl))
   ·exact key _ e3 (.inr (.inr rfl))
  obtain⟨m,hn,hl⟩:=I.loc
  have hvis:Vis X.env.scope y:=(ok.free _ (PySem.mem_of_lookup hfr.1) rfl).elim (fun k=> .inr (.inl k)) (fun k=> .inr (.inr k))
  obtain⟨w,r,q⟩:=hl i y av e1 e2 hvis
  refine⟨w,r,.inr ⟨hfr.2,?_⟩⟩
  obtain⟨c,h1,h2⟩:=look hfr.1
  rcases q with⟨k,_⟩|⟨_,c',e',z⟩
  ·have k:X.env.scope.names.lookup y=some .local:=k
   rcases ok.free _ (PySem.mem_of_lookup hfr.1) rfl with k'|k'<;>rw[show X.env.scope.names.lookup y=_ from k'] at k<;>cases k
  ·rw[h2] at e';cases e'
   exact⟨c,h1,z.keeps kp⟩
 ·have e:cenv.cells.lookup y=some c:=e
  rcases mem e with⟨h1,_⟩|⟨_,z⟩
  ·obtain⟨w,z⟩:=I.cell y c h1
   exact⟨w,z.keeps kp⟩
  ·exact⟨_,z⟩
 ·show H cenv.locals=none
  rw[hL];exact I.hok.fresh (Nat.le_refl _)
 ·have e:cenv.cells.lookup y=some c:=e
  rcases mem e with⟨h1,_⟩|⟨h1,_⟩
  ·exact I.sW y c h1
  ·exact I.hok.fresh (Nat.le_of_succ_le h1)
 ·exact absurd (show p∈([]:List (Addr×Obj))++[] from hp) (by simp)
theorem ZM{E:Value→Shared→Prop}{D:Addr}{xs:List V}{y:V}{v:Value}{Q:Value→Shared→Prop}(I:Inv X pins σ H s)(hD:H D=some (.lst xs))(hz:xs.length<sizeLine)(r:RelV y v)
  (h: ∀s',Inv X pins σ (upd H D (.lst (xs++[y]))) s'→Q .none s'):wpAny (model X.prog X.w) X.A (call (.builtin "list.append") [.ref D,v]) Q E s:=by
 obtain⟨hz',its,n,ri,e⟩:=I.hok D _ hD
 have hl:=ri.length
 refine append_at (hsz:=by rw[List.size_toArray];omega) e fun h' sb ho'=>?_
 refine h {s with heap:=h'} (I.write (t':=s.toks) (by rw[hD];trivial) (.inl rfl) (fun b u hb q=>(sb.2 b hb).trans q) ⟨_,ho'⟩ ⟨by rw[List.length_append];exact hz,its++[v],n+1,ri.append (.cons r .nil),?_⟩)
 rw[ho']
 simp
def PTs(X:Cx)(ifs:List Expr)(t:TT):Prop:=
 ∀(pins:List (Addr×Obj)) (s:Shared) (σ:St) (H:Hp) (Q:Bool→Hp→Prop),Inv X pins σ H s→t σ H Q→
  wpAny (model X.prog X.w) X.A (forIn ifs true fun c r=>if r=true then do let ok←isTrue c X.env (eval c X.env);pure (ForInStep.yield ok) else pure (ForInStep.yield r)) (TP X pins σ Q) X.xe s
def tYes:TT:=fun _ H Q=>Q true H
theorem jG:PTs X [] tYes:=fun _ _ _ H _ I h=>wpAny_tests_nil ⟨H,I,h⟩
theorem RD{c:Expr}{t:TT}(h:PT X c t):PTs X [c] t:=fun pins s σ H Q I hw=>wpAny_tests_one (h pins s σ H Q I hw)
end
theorem Tc{α:Type}{t:Sem α}{Q Q':α→Shared→Prop}{M:Model}{A:Around}{E:Value→Shared→Prop}{s:Shared}(h:wpAny M A t Q (fun _ _=>False) s)(hQ: ∀a s,Q a s→Q' a s):wpAny M A t Q' E s:=wpAny_mono h hQ fun _ _ z=>False.elim z
theorem JF{prog:Program}{w:World}{A:Around}{R:Result→Shared→Prop}{s:Shared}{elt target iter:Expr}{ifs:List Expr}{scope:Scope}{pos:Pos}{it acc:Value}{env:Env}(I:Nat→Shared→Prop)
  (turn: ∀n s,I n s→wpAny (model prog w) A (pyNext it) (fun r s₁=>match r with
   |none=>R (.ok .next) s₁
   |some v=>wpAny (model prog w) A (letOwnedTupleGo target it v) (fun _ s₁'=>wpAny (model prog w) A (assign target env v) (fun _ s₂=>
     wpAny (model prog w) A (forIn ifs true fun c r=>if r=true then do let ok←isTrue c env (eval c env);pure (ForInStep.yield ok) else pure (ForInStep.yield r)) (fun ok s₃=>
      if ok=true then wpAny (model prog w) A (eval elt env) (fun x s₄=>
       wpAny (model prog w) A (call (.builtin "list.append") [acc,x]) (fun _ s₅=>∃m,m<n∧I m s₅) (notedBy (model prog w) A env fun e s'=>R (.error e) s') s₄) (notedBy (model prog w) A env fun e s'=>R (.error e) s') s₃
      else∃m,m<n∧I m s₃) (notedBy (model prog w) A env fun e s'=>R (.error e) s') s₂) (notedBy (model prog w) A env fun e s'=>R (.error e) s') s₁') (notedBy (model prog w) A env fun e s'=>R (.error e) s') s₁) (notedBy (model prog w) A env fun e s'=>R (.error e) s') s)
  (n:Nat) (h:I n s):
  codeAny (model prog w) A (.compLoop (.ListComp elt [⟨target,iter,ifs,0⟩] scope pos) 0 it acc env) R s:=by
 refine codeAny_loop rfl I (fun n s hI=>?_) n h
 show wpAny _ A ((compTurn (.ListComp elt [⟨target,iter,ifs,0⟩] scope pos) 0 it acc env).onRaise (fun x=>do noteFrame x env;theTreesLotGoes x)) _ _ s
 refine wpAny_noted ?_
 rw[compTurn_list]
 refine wpAny_bind (wpAny_standAt (wpAny_bind (wpAny_mono (turn n s hI) (fun r s₁ h₁=>?_) fun _ _ h'=>h')))
 cases r with
 |none=>exact wpAny_pure h₁
 |some v=>
  refine wpAny_bind (wpAny_mono h₁ (fun _ s₁' h₁'=>?_) fun _ _ h'=>h')
  refine wpAny_bind (wpAny_mono h₁' (fun _ s₂ h₂=>wpAny_bind (wpAny_mono h₂ (fun ok s₃ h₃=>?_) fun _ _ h'=>h')) fun _ _ h'=>h')
  cases ok with
  |false=>exact wpAny_pure ⟨rfl,h₃⟩
  |true=>
   exact wpAny_bind (wpAny_bind (wpAny_mono h₃ (fun x s₄ h₄=>wpAny_bind (wpAny_mono h₄ (fun _ s₅ h₅=>wpAny_pure (wpAny_pure ⟨rfl,h₅⟩)) fun _ _ h'=>h')) fun _ _ h'=>h'))
section
variable{X:Cx}
def tLc(wi:TI)(g:TG)(tt:TT)(te:TE)(vs:List Nat):TE:=fun σ H Q=>wi σ H fun J H1=>∀D,H1 D=none→∃W:Nat→Nat→Hp→Prop,(∃m,W 0 m (upd H1 D (.lst [])))∧∀i m H,W i m H→
 (J.stop i H∧Q (.ref D) H)∨(J.go i H∧∃Nx:Hp→Prop,(∀H',Nx H'→∃m',m'<m∧W (i+1) m' H')∧∀x H',J.yld i H x H'→g x (wipe σ vs) H' fun σ2 H2=>wipe σ2 vs=wipe σ vs∧tt σ2 H2 fun b H3=>
  if b=true then te σ2 H3 fun y H4=>∃acc,H4 D=some (.lst acc)∧acc.length<sizeLine∧Nx (upd H4 D (.lst (acc++[y]))) else Nx H3)
theorem RG{pins:List (Addr×Obj)}{s:Shared}{σ:St}{H:Hp}{Q:VK}{elt tg iter:Expr}{ifs:List Expr}{scope:Scope}{own:List (Str×Nat)}{pos pos':Pos}{wi:TI}{g:TG}{tt:TT}{te:TE}{use:Option (Value→Sem Unit)}{Qf:Value→Shared→Prop}
  (hc:X.calm=true) (hN:X.N.Nodup) (I:Inv X pins σ H s) (hi:PI X tg iter wi) (ok:MJ X.N X.env.scope scope own)
  (hg: ∀(s:Shared) (H:Hp) (C:Addr) (cl:List (Str×Addr)) (fp:List Addr),PG (X.blk s H scope (compEnvC scope cl C X.env) fp) tg g) (ht: ∀(s:Shared) (H:Hp) (C:Addr) (cl:List (Str×Addr)) (fp:List Addr),PTs (X.blk s H scope (compEnvC scope cl C X.env) fp) ifs tt)
  (he: ∀(s:Shared) (H:Hp) (C:Addr) (cl:List (Str×Addr)) (fp:List Addr),PE (X.blk s H scope (compEnvC scope cl C X.env) fp) elt te) (hs: ∀x,foldedSetIterable iter X.env x=pure x)
  (h:tLc wi g tt te (own.map (·.2)) σ H Q)
  (hRR: ∀D C s' m H',Inv X pins σ H' s'→Q (.ref D) H'→s'.heap.Ns C m→zJ X pins H' C→compPost (model X.prog X.w) X.A X.xe use Qf (.ref D) C (.ok .next) s'):
  wpAny (model X.prog X.w) X.A (comprehension (.ListComp elt [⟨tg,iter,ifs,0⟩] scope pos) scope X.env pos' (newList []) false (eval iter X.env) use) Qf X.xe s:=by
 have hfree: ∀y∈scope.names,y.2= .free→∃c,X.env.cells.lookup y.1=some c:=fun y hy e=>by
  rcases ok.free y hy e with k|k
  ·exact I.ok.has _ (.inl k)
  ·exact I.ok.has _ (.inr k)
 refine wpAny_comprehension_free (use:=use) rfl hs (Dz hfree) ok.kind (fun y hy e=>by rw[ok.uniq y hy,e])
  (thn (hi pins s σ H _ I h) fun xv s1 hx=>thn hx fun itv s2 h2=>?_)
 obtain⟨it,fp,tn,J,H2,e,I2,T,st2,f2,q⟩:=h2
 subst e
 refine wpAny_newObj_type (MF ?_) (by show 0≤sizeLine;decide)
 generalize hD:s2.heap.objs.size=D
 have hDn:H2 D=none:=I2.hok.fresh (Nat.le_of_eq hD)
 obtain⟨W,⟨m0,w0⟩,turn⟩:=q D hDn
 generalize hs3:({s2 with heap:=s2.heap.push {cls:= .type "list",data:= .seq ([]:List Value).toArray}}:Shared)=s3
 have I3:Inv X pins σ (upd H2 D (.lst [])) s3:=by
  rw[←hs3]
  refine I2.laid (t':=s2.toks) (fun b o e=>Heap.get?_push_of_some _ e) (Nat.le_of_eq hD) ⟨Nat.zero_le _,[],0,.nil,?_⟩
  rw[←hD]
  exact Heap.get?_push_size _ rfl
 have h3:s3.heap=s2.heap.push {cls:= .type "list",data:= .seq ([]:List Value).toArray}:=by rw[←hs3]
 have sz: ∀b∈fp,b<s2.heap.objs.size:=fun b hb=>by
  obtain⟨o,e,_⟩:=T.obj _ _ st2 b hb
  exact Heap.lt_size e
 have f3: ∀b∈fp,zJ X pins (upd H2 D (.lst [])) b∧b<s3.heap.objs.size:=fun b hb=>by
  have hlt:=sz b hb
  refine⟨⟨?_,(f2 b hb).2⟩,by rw[h3,Heap.size_push];exact Nat.lt_succ_of_lt hlt⟩
  rw[aJ (by rw[←hD];exact Nat.ne_of_lt hlt)]
  exact(f2 b hb).1
 have st3:tn 0 s3.heap:=T.keep _ _ _ st2 fun b _ o e=>by rw[h3];exact Heap.get?_push_of_some _ e
 have I4:=MK I3 ok hN f3
 have pg:=hg s3 (upd H2 D (.lst [])) s3.heap.objs.size (cellsFrom (s3.heap.objs.size+1) scope.names (dw X.env.cells scope.names [])) fp
 have pt:=ht s3 (upd H2 D (.lst [])) s3.heap.objs.size (cellsFrom (s3.heap.objs.size+1) scope.names (dw X.env.cells scope.names [])) fp
 have pe:=he s3 (upd H2 D (.lst [])) s3.heap.objs.size (cellsFrom (s3.heap.objs.size+1) scope.names (dw X.env.cells scope.names [])) fp
 show codeAny _ _ (.compStart (.ListComp elt [⟨tg,iter,ifs,0⟩] scope pos) 0 (.ref it) (.ref D) (compEnvC scope (cellsFrom (s3.heap.objs.size+1) scope.names (dw X.env.cells scope.names [])) s3.heap.objs.size X.env)) (compPost (model X.prog X.w) X.A X.xe use Qf (.ref D) s3.heap.objs.size) {s3 with heap:=pushCells (s3.heap.push {cls:= .type "dict",data:= .dict #[]}) scope.names}
 have nfp: ∀b∈fp,(upd H2 D (.lst [])) b=none:=fun b hb=>(f3 b hb).1.1
 generalize hce:compEnvC scope (cellsFrom (s3.heap.objs.size+1) scope.names (dw X.env.cells scope.names [])) s3.heap.objs.size X.env=ce at I4 pg pt pe⊢
 have cL:ce.locals=s3.heap.objs.size:=by subst hce;rfl
 generalize hH3:upd H2 D (.lst [])=H3 at I3 I4 pg pt pe w0 nfp f3
 generalize hs4:({s3 with heap:=pushCells (s3.heap.push {cls:= .type "dict",data:= .dict #[]}) scope.names}:Shared)=s4 at I4⊢
 have st4:tn 0 s4.heap:=T.keep _ _ _ st3 fun b _ o e=>by rw[←hs4];exact pushCells_keeps _ _ _ _ (Heap.get?_push_of_some _ e)
 have stat: ∀{σ':St} {H':Hp} {s':Shared},Inv (X.blk s3 H3 scope ce fp) [] σ' H' s'→(∀b∈fp,H' b=none)→∀b∈fp,zJ (X.blk s3 H3 scope ce fp) [] H' b:=fun{σ' H' s'} I' hn b hb=>
  ⟨hn b hb,(I'.ok.exf b hb).1,I'.ok.Va b hb,.inl hb,fun x c e=>(I'.ok.exf b hb).2 x c e,fun p hp=>absurd (show p∈([]:List (Addr×Obj))++[] from hp) (by simp)⟩
 have loop:codeAny (model X.prog X.w) X.A (.compLoop (.ListComp elt [⟨tg,iter,ifs,0⟩] scope pos) 0 (.ref it) (.ref D) ce) (compPost (model X.prog X.w) X.A X.xe use Qf (.ref D) s3.heap.objs.size) s4:=by
  refine JF (fun n s'=>∃i H',Inv (X.blk s3 H3 scope ce fp) [] (wipe σ (own.map (·.2))) H' s'∧tn i s'.heap∧(∀b∈fp,H' b=none)∧W i n H') ?_ m0 ⟨0,H3,I4,st4,nfp,w0⟩
  rintro n s5 ⟨i,H5,I5,st5,n5,w5⟩
  rcases turn i n H5 w5 with⟨stop,qq⟩|⟨go,Nx,hNx,step⟩
  ·have td:=T.done (X.blk s3 H3 scope ce fp) rfl rfl rfl hc i [] s5 _ H5 (fun _ _=>False) I5 (stat I5 n5) st5 stop
   refine Tc td fun r s6 ⟨hr,I6⟩=>?_
   subst hr
   have I7:Inv X pins σ H5 s6:=I3.call' (ch:=fp) I6.os I6.base I6.hok I6.bare fun b hb=>⟨(f3 b hb).1.2.2.2.1,(f3 b hb).1.2.1,(f3 b hb).1.2.2.2.2.1,(f3 b hb).1.2.2.2.2.2⟩
   have nC:H5 s3.heap.objs.size=none:=by
    have z:H5 ce.locals=none:=I6.free
    rw[cL] at z
    exact z
   obtain⟨m,hn,_⟩:=I6.loc
   have hn:s6.heap.Ns ce.locals m:=hn
   rw[cL] at hn
   exact hRR D s3.heap.objs.size s6 m H5 I7 qq hn (I3.Py (Nat.le_refl _) nC)
  ·have ti:=T.item (X.blk s3 H3 scope ce fp) rfl rfl rfl hc i [] s5 _ H5 (fun _ _=>False) I5 (stat I5 n5) st5 go
   refine Tc ti fun r s6 ⟨u,hr,h6⟩=>?_
   subst hr
   refine Tc h6 fun _ s7 ⟨x,H7,I7,r7,y7,st7,n7⟩=>?_
   have I7':=I7.pinned (stat I7 n7) (T.obj _ _ st7)
   refine Tc (pg _ s7 _ H7 x u _ I7' r7 (step x H7 y7)) fun _ s8 ⟨σ8,H8,I8,hw8,q8⟩=>?_
   refine Tc (pt _ s8 σ8 H8 _ I8 q8) fun b s9 ⟨H9,I9,q9⟩=>?_
   have fin: ∀{s':Shared} {H':Hp},Inv (X.blk s3 H3 scope ce fp) ([]++Dm fp s7.heap) σ8 H' s'→Nx H'→∃m,m<n∧∃i H',Inv (X.blk s3 H3 scope ce fp) [] (wipe σ (own.map (·.2))) H' s'∧tn i s'.heap∧(∀b∈fp,H' b=none)∧W i m H':=fun{s' H'} I' nx=>by
    obtain⟨m',hm,w'⟩:=hNx H' nx
    have pin': ∀b∈fp,∀o,s7.heap.get? b=some o→s'.heap.get? b=some o∧H' b=none:=fun b hb o e=>
     let z:=I'.pin (b,o) (List.mem_append_right _ (List.mem_append_right _ (wL hb e)))
     ⟨z.1,z.2.1⟩
    have hl:(wipe σ (own.map (·.2))).length=σ8.length:=by rw[←hw8,ug]
    refine⟨m',hm,i+1,H',(I'.tX (pins:=[])).weak hl (fun j v e=>?_),T.keep _ _ _ st7 fun b hb o e=>(pin' b hb o e).1,fun b hb=>?_,w'⟩
    ·rw[←hw8] at e
     exact(zO e).1
    ·obtain⟨o,e,_⟩:=T.obj _ _ st7 b hb
     exact(pin' b hb o e).2
   cases b with
   |false=>
    simp only[Bool.false_eq_true,if_false] at q9⊢
    exact fin I9 q9
   |true=>
    simp only[if_true] at q9⊢
    refine Tc (pe _ s9 σ8 H9 _ I9 q9) fun z s10 ⟨yv,H10,I10,r10,acc,Td,hz10,nx⟩=>?_
    exact ZM (X:=X.blk s3 H3 scope ce fp) I10 Td hz10 r10 fun s11 I11=>fin I11 nx
 exact codeAny_compStart_list loop (T.self X.A 0 _ _ _ st4 loop)
theorem Bu{elt tg iter:Expr}{ifs:List Expr}{scope:Scope}{own:List (Str×Nat)}{pos:Pos}{wi:TI}{g:TG}{tt:TT}{te:TE}(hc:X.calm=true)(hN:X.N.Nodup)(hi:PI X tg iter wi)(ok:MJ X.N X.env.scope scope own)
  (hg: ∀(s:Shared) (H:Hp) (C:Addr) (cl:List (Str×Addr)) (fp:List Addr),PG (X.blk s H scope (compEnvC scope cl C X.env) fp) tg g) (ht: ∀(s:Shared) (H:Hp) (C:Addr) (cl:List (Str×Addr)) (fp:List Addr),PTs (X.blk s H scope (compEnvC scope cl C X.env) fp) ifs tt)
  (he: ∀(s:Shared) (H:Hp) (C:Addr) (cl:List (Str×Addr)) (fp:List Addr),PE (X.blk s H scope (compEnvC scope cl C X.env) fp) elt te) (hs: ∀x,foldedSetIterable iter X.env x=pure x:=by intro _;rfl):
  PE X (.ListComp elt [⟨tg,iter,ifs,0⟩] scope pos) (tLc wi g tt te (own.map (·.2))):=by
 intro pins s σ H Q I h
 rw[eval_ListComp]
 refine RG hc hN I hi ok hg ht he hs h fun D C s' m H' I' q hn f=>⟨m,hn,fun h'' sb=>?_⟩
 obtain⟨f0,f1,f2,f3,f4,f5⟩:=f
 exact⟨.ref D,H',I'.turned (t':=s'.toks) (fun b o hb e=>(sb.2 b hb).trans e) f0 f1 f3 f4 f5,rfl,q⟩
theorem uh{i:Nat}{y:Str}{py:Pos}{elt tg iter:Expr}{ifs:List Expr}{scope:Scope}{own:List (Str×Nat)}{pos spos:Pos}{wi:TI}{g:TG}{tt:TT}{te:TE}(hc:X.calm=true)(hN:X.N.Nodup)(hy:X.N[i]?=some y)(hyl:X.env.scope.names.lookup y=some .local)
  (hsw:swapsWith (.ListComp elt [⟨tg,iter,ifs,0⟩] scope pos) (some (.Name y py)) spos.line X.env=pure true) (hi:PI X tg iter wi) (ok:MJ X.N X.env.scope scope own)
  (hg: ∀(s:Shared) (H:Hp) (C:Addr) (cl:List (Str×Addr)) (fp:List Addr),PG (X.blk s H scope (compEnvC scope cl C X.env) fp) tg g) (ht: ∀(s:Shared) (H:Hp) (C:Addr) (cl:List (Str×Addr)) (fp:List Addr),PTs (X.blk s H scope (compEnvC scope cl C X.env) fp) ifs tt)
  (he: ∀(s:Shared) (H:Hp) (C:Addr) (cl:List (Str×Addr)) (fp:List Addr),PE (X.blk s H scope (compEnvC scope cl C X.env) fp) elt te) (hs: ∀x,foldedSetIterable iter X.env x=pure x:=by intro _;rfl):
  PS X (.Assign [.Name y py] (.ListComp elt [⟨tg,iter,ifs,0⟩] scope pos) spos) (Vf (tLc wi g tt te (own.map (·.2))) (wk i)):=by
 intro pins s σ H D I h
 rw[exec_Assign_Name_used _ _ _ _ hsw]
 refine wpAny_bind (wpAny_standAt (wpAny_bind ?_))
 show wpAny _ X.A (do let _←comprehension (.ListComp elt [⟨tg,iter,ifs,0⟩] scope pos) scope X.env (firstIterPos [⟨tg,iter,ifs,0⟩] pos) (newList []) false (eval iter X.env) (some (assign (.Name y py) X.env))) _ _ s
 have h:tLc wi g tt te (own.map (·.2)) σ H (fun x H1=>wk i x σ H1 D.nx):=h
 refine wpAny_bind (thn (RG (Qf:=fun _ s'=>SP X pins D .next s') hc hN I hi ok hg ht he hs h fun L C s' m H' I' q hn f=>?_) fun _ s' hq=>wpAny_pure (wpAny_pure hq))
 show wpAny _ _ (assign (.Name y py) X.env (.ref L)) _ _ _
 refine wpAny_assign_Name (HN (v:=V.ref L) I' hN hy (.inl hyl) rfl (fun s2 I2 ⟨a,sb,ha⟩=>?_) (.inr hyl))
 obtain⟨f0,f1,f2,f3,f4,f5⟩:=f
 have haC:C≠a:=by
  rcases ha with z|z
  ·rw[z];exact f1
  ·exact fun e=>f4 y a z e.symm
 refine⟨m,hn.sameBut sb haC,fun h3 sb3=>?_⟩
 exact⟨_,H',I2.turned (t':=s2.toks) (fun b o hb e=>(sb3.2 b hb).trans e) f0 f1 f3 f4 f5,q⟩
theorem yj{elt:Expr}{gs:List Comprehension}{scope:Scope}{pos py:Pos}{y:Str}{l:Nat}{env:Env}(hk:env.scope.kind= .function)(hy:env.scope.names.lookup y=some .local)(hl:(py.line==pos.line)=true)
  (ha:(scope.names.any fun(n,k)=>n==y&&(k== .local||k== .cell))=false):swapsWith (.ListComp elt gs scope pos) (some (.Name y py)) l env=pure true:=by
 have ky:env.kindOf y=some .local:=hy
 have hb:env.blockKind= .function:=by unfold Env.blockKind;rw[hk];rfl
 unfold swapsWith
 simp only[hb,ky,ha,Expr.pos,hl]
 rfl
end
theorem p8{lo:Int}{n:Nat}{g:TG}{tt:TT}{te:TE}{vs:List Nat}{σ:St}{H1:Hp}{D:Addr}{Qd:Hp→Prop}(Pv:Nat→Hp→Prop)(h0:Pv 0 (upd H1 D (.lst [])))
  (hs: ∀i H,i<n→Pv i H→g (.int (lo+i)) (wipe σ vs) H fun σ2 H2=>wipe σ2 vs=wipe σ vs∧tt σ2 H2 fun b H3=>
   if b=true then te σ2 H3 fun y H4=>∃acc,H4 D=some (.lst acc)∧acc.length<sizeLine∧Pv (i+1) (upd H4 D (.lst (acc++[y]))) else Pv (i+1) H3) (hd: ∀H,Pv n H→Qd H):
  ∃W:Nat→Nat→Hp→Prop,(∃m,W 0 m (upd H1 D (.lst [])))∧∀i m H,W i m H→
   ((Itr lo n).stop i H∧Qd H)∨((Itr lo n).go i H∧∃Nx:Hp→Prop,(∀H',Nx H'→∃m',m'<m∧W (i+1) m' H')∧∀x H',(Itr lo n).yld i H x H'→g x (wipe σ vs) H' fun σ2 H2=>wipe σ2 vs=wipe σ vs∧tt σ2 H2 fun b H3=>
    if b=true then te σ2 H3 fun y H4=>∃acc,H4 D=some (.lst acc)∧acc.length<sizeLine∧Nx (upd H4 D (.lst (acc++[y]))) else Nx H3):=by
 refine⟨fun i m H=>m=n - i∧i≤n∧Pv i H,⟨n,by simp,Nat.zero_le _,h0⟩,?_⟩
 rintro i m H ⟨rfl,hi,p⟩
 by_cases hlt:i<n
 ·refine .inr ⟨hlt,Pv (i+1),fun H' p'=>⟨n - (i+1),by omega,rfl,hlt,p'⟩,fun x H' y=>?_⟩
  obtain⟨e,y⟩:=y
  subst e y
  exact hs i _ hlt p
 ·have e:i=n:=by omega
  subst e
  exact .inl ⟨Nat.le_refl _,hd H p⟩
theorem yp{K:PySem.W.Frag}{a:Addr}{xs:List V}{g:TG}{tt:TT}{te:TE}{vs:List Nat}{σ:St}{H1:Hp}{D:Addr}{Qd:Hp→Prop}(Pv:Nat→Hp→Prop)(h0:Pv 0 (upd H1 D (.lst [])))(hl: ∀i H,i≤xs.length→Pv i H→SqL K H a xs)
  (hs: ∀i x H,xs[i]?=some x→Pv i H→g x (wipe σ vs) H fun σ2 H2=>wipe σ2 vs=wipe σ vs∧tt σ2 H2 fun b H3=>
   if b=true then te σ2 H3 fun y H4=>∃acc,H4 D=some (.lst acc)∧acc.length<sizeLine∧Pv (i+1) (upd H4 D (.lst (acc++[y]))) else Pv (i+1) H3) (hd: ∀H,Pv xs.length H→Qd H):
  ∃W:Nat→Nat→Hp→Prop,(∃m,W 0 m (upd H1 D (.lst [])))∧∀i m H,W i m H→
   ((Itl K a).stop i H∧Qd H)∨((Itl K a).go i H∧∃Nx:Hp→Prop,(∀H',Nx H'→∃m',m'<m∧W (i+1) m' H')∧∀x H',(Itl K a).yld i H x H'→g x (wipe σ vs) H' fun σ2 H2=>wipe σ2 vs=wipe σ vs∧tt σ2 H2 fun b H3=>
    if b=true then te σ2 H3 fun y H4=>∃acc,H4 D=some (.lst acc)∧acc.length<sizeLine∧Nx (upd H4 D (.lst (acc++[y]))) else Nx H3):=by
 refine⟨fun i m H=>m=xs.length - i∧i≤xs.length∧Pv i H,⟨xs.length,by simp,Nat.zero_le _,h0⟩,?_⟩
 rintro i m H ⟨rfl,hi,p⟩
 have q:=hl i H hi p
 by_cases hlt:i<xs.length
 ·refine .inr ⟨⟨xs,xs[i],q,by simp[hlt]⟩,Pv (i+1),fun H' p'=>⟨xs.length - (i+1),by omega,rfl,hlt,p'⟩,fun x H' y=>?_⟩
  obtain⟨e,y⟩:=y
  subst e
  exact hs i x _ (y xs q) p
 ·have e:i=xs.length:=by omega
  subst e
  exact .inl ⟨⟨xs,q,Nat.le_refl _⟩,hd H p⟩
def blkC(N:List Str)(sc scope:Scope)(own:List (Str×Nat)):Bool:=
 (match scope.kind with| .function=>true|_=>false)&&(scope.names.all fun y=>decide (scope.names.lookup y.1=some y.2))&&(own.all fun p=>decide (N[p.2]?=some p.1))&&
  (scope.names.all fun y=>match y.2 with
   | .free=>(match sc.names.lookup y.1 with|some .cell=>true|some .free=>true|_=>false)
   | .local=>decide (y.1∈own.map (·.1))||decide (y.1∉N)
   | .cell=>decide (y.1∈own.map (·.1))||decide (y.1∉N)
   |_=>true)
theorem fU{N:List Str}{sc scope:Scope}{own:List (Str×Nat)}(h:blkC N sc scope own=true):MJ N sc scope own:=by
 unfold blkC at h
 simp only[Bool.and_eq_true,List.all_eq_true,decide_eq_true_eq] at h
 obtain⟨⟨⟨h1,h2⟩,h3⟩,h4⟩:=h
 refine⟨?_,h2,h3,fun y hy e=>?_,fun y hy e=>?_⟩
 ·split at h1
  ·assumption
  ·cases h1
 ·have q:=h4 y hy
  simp only[e] at q
  split at q<;>first|exact .inl (by assumption)|exact .inr (by assumption)|cases q
 ·have q:=h4 y hy
  rcases e with e|e<;>(simp only[e,Bool.or_eq_true,decide_eq_true_eq] at q;exact q)
section
variable{prog:Program}{w:World}{A:Around}{R:Result→Shared→Prop}{s:Shared}{elt t0 i0 t1 i1:Expr}{ifs0 ifs1:List Expr}{scope:Scope}{pos:Pos}{it acc:Value}{env:Env}
end
section
variable{X:Cx}
end
section
variable{κ:Type}[DecidableEq κ]
def jC(kvs:List (κ×V))(k:κ):Option V:=(kvs.find? fun kv=>decide (kv.1=k)).map (·.2)
def putK(kvs:List (κ×V))(k:κ)(v:V):List (κ×V):=
 if(kvs.any fun kv=>decide (kv.1=k))=true then kvs.map (fun kv=>if kv.1=k then(kv.1,v) else kv) else kvs++[(k,v)]
def n6(kvs:List (κ×V))(k:κ):List (κ×V):=kvs.filter fun kv=>decide (kv.1≠k)
theorem fV{p:κ×V}{r:List (κ×V)}{k:κ}(e:p.1=k):jC (p::r) k=some p.2:=by simp[jC,List.find?_cons,e]
theorem fC{p:κ×V}{r:List (κ×V)}{k:κ}(e: ¬p.1=k):jC (p::r) k=jC r k:=by simp[jC,List.find?_cons,e]
theorem yq(k:κ): ∀kvs:List (κ×V),(kvs.any fun kv=>decide (kv.1=k))=(jC kvs k).isSome
 |[]=>rfl
 |p::r=>by
  rw[List.any_cons]
  by_cases e:p.1=k
  ·simp only[fV e,decide_eq_true e,Bool.true_or,Option.isSome_some]
  ·rw[fC e,decide_eq_false e,Bool.false_or];exact yq k r
theorem MP(k j:κ)(y:V): ∀kvs:List (κ×V),jC (kvs.map fun kv=>if kv.1=k then(kv.1,y) else kv) j=(jC kvs j).map fun x=>if j=k then y else x
 |[]=>rfl
 |p::r=>by
  have ih:=MP k j y r
  rw[List.map_cons]
  by_cases h:p.1=k
  ·rw[if_pos h]
   by_cases e:p.1=j
   ·rw[fV (p:=(p.1,y)) e,fV e,Option.map_some,if_pos (e.symm.trans h)]
   ·rw[fC (p:=(p.1,y)) e,fC e,ih]
  ·rw[if_neg h]
   by_cases e:p.1=j
   ·rw[fV (p:=p) e,fV e,Option.map_some,if_neg (fun z=>h (e.trans z))]
   ·rw[fC (p:=p) e,fC e,ih]
theorem Ih(k j:κ)(y:V): ∀kvs:List (κ×V),jC kvs k=none→jC (kvs++[(k,y)]) j=if j=k then some y else jC kvs j
 |[],_=>by
  by_cases e:k=j
  ·rw[if_pos e.symm];exact fV (p:=(k,y)) e
  ·rw[if_neg (fun z=>e z.symm)];exact fC (p:=(k,y)) e
 |p::r,hn=>by
  rw[List.cons_append]
  have hk: ¬p.1=k:=fun z=>by rw[fV z] at hn;cases hn
  rw[fC hk] at hn
  have ih:=Ih k j y r hn
  by_cases e:p.1=j
  ·rw[fV e,fV e,if_neg (fun z=>hk (e.trans z))]
  ·rw[fC e,fC e,ih]
theorem M4(kvs:List (κ×V))(k j:κ)(y:V):jC (putK kvs k y) j=if j=k then some y else jC kvs j:=by
 unfold putK
 by_cases a:(kvs.any fun kv=>decide (kv.1=k))=true
 ·rw[if_pos a,MP]
  rw[yq] at a
  by_cases e:j=k
  ·obtain⟨x,hx⟩:=Option.isSome_iff_exists.mp a
   rw[if_pos e,e,hx,Option.map_some,if_pos rfl]
  ·rw[if_neg e]
   cases jC kvs j with
   |none=>rfl
   |some x=>rw[Option.map_some,if_neg e]
 ·rw[if_neg a]
  refine Ih k j y kvs ?_
  rw[yq] at a
  cases q:jC kvs k with
  |none=>rfl
  |some x=>rw[q] at a;exact(a rfl).elim
theorem n8(kvs:List (κ×V))(k:κ)(v:V):(putK kvs k v).length≤kvs.length+1:=by
 unfold putK
 split
 ·rw[List.length_map];omega
 ·rw[List.length_append,List.length_cons,List.length_nil];omega
theorem tR.zP{o:Option V}{u:Option Value}(r:tR o u):o.isSome=u.isSome:=by
 cases o with
 |none=>cases u with
  |none=>rfl
  |some _=>exact(show False from r).elim
 |some _=>cases u with
  |none=>exact(show False from r).elim
  |some _=>rfl
theorem KV.val{kvs:List (κ×V)}{vs:List (κ×Value)}(r:KV kvs vs)(k:κ):tR (jC kvs k) (valueAt vs k):=by
 unfold KV at r
 induction r with
 |nil=>exact True.intro
 | @cons p q ps qs h t ih=>
  obtain⟨h1,h2⟩:=h
  by_cases e:p.1=k
  ·have e':q.1=k:=h1.symm.trans e
   have b:valueAt (q::qs) k=some q.2:=by simp[valueAt,List.find?_cons,e']
   rw[fV e,b];exact h2
  ·have e': ¬q.1=k:=fun z=>e (h1.trans z)
   have b:valueAt (q::qs) k=valueAt qs k:=by simp[valueAt,List.find?_cons,e']
   rw[fC e,b];exact ih
theorem KV.any{kvs:List (κ×V)}{vs:List (κ×Value)}(r:KV kvs vs)(k:κ):(kvs.any fun kv=>decide (kv.1=k))=vs.any fun kv=>decide (kv.1=k):=by
 unfold KV at r
 induction r with
 |nil=>rfl
 |cons h t ih=>rw[List.any_cons,List.any_cons,ih,h.1]
theorem KV.repl{kvs:List (κ×V)}{vs:List (κ×Value)}(r:KV kvs vs)(k:κ){y:V}{u:Value}(ry:RelV y u):
  KV (kvs.map fun kv=>if kv.1=k then(kv.1,y) else kv) (vs.map fun kv=>if kv.1=k then(kv.1,u) else kv):=by
 unfold KV at r⊢
 induction r with
 |nil=>exact .nil
 | @cons p q ps qs h t ih=>
  rw[List.map_cons,List.map_cons]
  refine .cons ?_ ih
  obtain⟨h1,h2⟩:=h
  by_cases e:p.1=k
  ·rw[if_pos e,if_pos (h1.symm.trans e)];exact⟨h1,ry⟩
  ·rw[if_neg e,if_neg (fun z=>e (h1.trans z))];exact⟨h1,h2⟩
theorem KV.put{kvs:List (κ×V)}{vs:List (κ×Value)}(r:KV kvs vs)(k:κ){y:V}{u:Value}(ry:RelV y u):KV (putK kvs k y) (stored vs k u):=by
 unfold putK stored
 rw[r.any k]
 by_cases e:(vs.any fun kv=>decide (kv.1=k))=true
 ·rw[if_pos e,if_pos e];exact r.repl k ry
 ·rw[if_neg e,if_neg e];exact Paired.snoc r ⟨rfl,ry⟩
theorem KV.drop{kvs:List (κ×V)}{vs:List (κ×Value)}(r:KV kvs vs)(k:κ):KV (n6 kvs k) (without vs k):=by
 unfold KV at r⊢
 unfold n6 without
 induction r with
 |nil=>exact .nil
 | @cons p q ps qs h t ih=>
  obtain⟨h1,h2⟩:=h
  rw[List.filter_cons,List.filter_cons]
  by_cases e:p.1=k
  ·have a: ¬decide (p.1≠k)=true:=by simp[e]
   have b: ¬decide (q.1≠k)=true:=by simp[h1.symm.trans e]
   rw[if_neg a,if_neg b];exact ih
  ·have e': ¬q.1=k:=fun z=>e (h1.trans z)
   have a:decide (p.1≠k)=true:=by simp[e]
   have b:decide (q.1≠k)=true:=by simp[e']
   rw[if_pos a,if_pos b];exact .cons ⟨h1,h2⟩ ih
theorem KV.length{kvs:List (κ×V)}{vs:List (κ×Value)}(r:KV kvs vs):kvs.length=vs.length:=Paired.length r
theorem Vz(kvs:List (κ×V))(k:κ):(n6 kvs k).length≤kvs.length:=List.length_filter_le _ _
end
theorem M5{P:Program}{w:World}{k:Key}{u:Value}(r:RelV (kV k) u):(gP P w).is k u=true:=by
 cases k with
 |inl i=>obtain⟨t,e⟩:=(show∃t,u=Value.int i t from r);subst e;exact Mp P w i t
 |inr x=>obtain⟨t,e⟩:=(show∃t,u=Value.str x t from r);subst e;exact Mq P w x t
theorem Ii{P:Program}{w:World}: ∀{ks:List Key} {us:List Value},Vals (ks.map kV) us→ItemsAre (gP P w) ks us
 |[],_,r=>by rw[List.map_nil] at r;cases r;exact .nil
 |k::ks,_,r=>by
  rw[List.map_cons] at r
  cases r with
  |cons h t=>exact .cons (M5 h) (Ii t)
abbrev KT(H:Hp):List (List Key×V)→List (List Key×Addr×Value)→Prop:=Paired fun p q=>p.1=q.1∧H q.2.1=some (.tup (p.1.map kV))∧RelV p.2 q.2.2
theorem KT.val{H:Hp}{kvs:List (List Key×V)}{xs:List (List Key×Addr×Value)}(r:KT H kvs xs)(k:List Key):tR (jC kvs k) ((atKey xs k).map (·.2)):=by
 induction r with
 |nil=>exact True.intro
 | @cons p q ps qs h t ih=>
  obtain⟨h1,_,h2⟩:=h
  by_cases e:p.1=k
  ·have e':q.1=k:=h1.symm.trans e
   have b:atKey (q::qs) k=some q.2:=by simp[atKey,List.find?_cons,e']
   rw[fV e,b];exact h2
  ·have e': ¬q.1=k:=fun z=>e (h1.trans z)
   have b:atKey (q::qs) k=atKey qs k:=by simp[atKey,List.find?_cons,e']
   rw[fC e,b];exact ih
theorem KT.repl{H:Hp}{kvs:List (List Key×V)}{xs:List (List Key×Addr×Value)}(r:KT H kvs xs)(k:List Key){y:V}{u:Value}(ry:RelV y u):
  KT H (kvs.map fun kv=>if kv.1=k then(kv.1,y) else kv) (xs.map (putAt k u)):=by
 induction r with
 |nil=>exact .nil
 | @cons p q ps qs h t ih=>
  rw[List.map_cons,List.map_cons]
  refine .cons ?_ ih
  obtain⟨h1,h2,h3⟩:=h
  unfold putAt
  by_cases e:p.1=k
  ·rw[if_pos e,if_pos (h1.symm.trans e)];exact⟨h1,h2,ry⟩
  ·rw[if_neg e,if_neg (fun z=>e (h1.trans z))];exact⟨h1,h2,h3⟩
theorem KT.put{H:Hp}{kvs:List (List Key×V)}{xs:List (List Key×Addr×Value)}(r:KT H kvs xs)(k:List Key){b:Addr}{y:V}{u:Value}(hb:H b=some (.tup (k.map kV)))(ry:RelV y u):
  KT H (putK kvs k y) (storedH xs k b u):=by
 have e:(kvs.any fun kv=>decide (kv.1=k))=(atKey xs k).isSome:=by
  rw[yq,(r.val k).zP,Option.isSome_map]
 unfold putK storedH
 rw[e]
 by_cases q:(atKey xs k).isSome=true
 ·rw[if_pos q,if_pos q];exact r.repl k ry
 ·rw[if_neg q,if_neg q];exact Paired.snoc r ⟨rfl,hb,ry⟩
theorem KT.keeps{H H':Hp}{kvs:List (List Key×V)}{xs:List (List Key×Addr×Value)}(r:KT H kvs xs)(ht: ∀b ys,H b=some (.tup ys)→H' b=some (.tup ys)):KT H' kvs xs:=
 Paired.Zh r fun _ _ z=>⟨z.1,ht _ _ z.2.1,z.2.2⟩
section
variable{P:Program}{w:World}{H:Hp}{h:Heap}{a:Addr}
theorem YL{u:HO}(ok:HOk P w H h)(e:Rd H a u):fP P w H h a u:=e.ok ok
theorem M6{kvs:List (Key×V)}(ok:HOk P w H h)(e:Rd H a (.dK kvs)):kvs.length≤sizeLine∧(a==sysModules)=false∧∃vs,KV kvs vs∧h.DictOf (gP P w) a vs:=
 show fP P w H h a (.dK kvs) from YL ok e
theorem YM{kvs:List (Key×V)}(ok:HOk P w H h)(e:H a=some (.dK kvs)):kvs.length≤sizeLine∧(a==sysModules)=false∧∃vs,KV kvs vs∧h.DictOf (gP P w) a vs:=M6 ok (.inl e)
theorem JG{ks:List Key}(ok:HOk P w H h)(e:H a=some (.tup (ks.map kV))):(tupleKind (gP P w)).is h ks a:=by
 obtain⟨_,its,r,o,h1,h2,n,h3⟩:=(show fP P w H h a (.tup (ks.map kV)) from ok a _ e)
 exact⟨o,its.toArray,n,h1,h2,h3,by simpa using Ii r⟩
theorem M7{kvs:List (List Key×V)}(ok:HOk P w H h)(e:Rd H a (.dT kvs)):kvs.length≤sizeLine∧(a==sysModules)=false∧
  ∃xs,KT H kvs xs∧h.DictOfH (tupleKind (gP P w)) a xs:=by
 obtain⟨z,y,xs,r,o,es,ep,h1,h2,h3,h4,h5⟩:=(show fP P w H h a (.dT kvs) from YL ok e)
 refine⟨z,y,xs,r,o,es,ep,h1,h2,h3,h4,fun x hx=>?_,h5⟩
 have all: ∀{l:List (List Key×V)} {m:List (List Key×Addr×Value)},KT H l m→∀x∈m,(tupleKind (gP P w)).is h x.1 x.2.1:=by
  intro l m q
  induction q with
  |nil=>intro x hx;exact nomatch hx
  | @cons p q ps qs hq t ih=>
   intro x hx
   rcases List.mem_cons.mp hx with e|hx
   ·subst e
    exact JG ok (by rw[←hq.1];exact hq.2.1)
   ·exact ih x hx
 exact all r x hx
theorem aaW{kvs:List (List Key×V)}(ok:HOk P w H h)(e:H a=some (.dT kvs)):kvs.length≤sizeLine∧(a==sysModules)=false∧
  ∃xs,KT H kvs xs∧h.DictOfH (tupleKind (gP P w)) a xs:=M7 ok (.inl e)
end
def DG(H:Hp)(a:Addr)(y:V)(r:Option V):Prop:=
 (∃kvs k,Rd H a (.dK kvs)∧y=kV k∧r=jC kvs k)∨∃kvs k b,Rd H a (.dT kvs)∧y= .ref b∧H b=some (.tup (k.map kV))∧r=jC kvs k
def Te(H:Hp)(a:Addr)(y v:V)(H':Hp):Prop:=
 (∃kvs k,H a=some (.dK kvs)∧y=kV k∧kvs.length<sizeLine∧H'=upd H a (.dK (putK kvs k v)))∨
 ∃kvs k b,H a=some (.dT kvs)∧y= .ref b∧H b=some (.tup (k.map kV))∧kvs.length<sizeLine∧H'=upd H a (.dT (putK kvs k v))
theorem DG.k{H:Hp}{a:Addr}{kvs:List (Key×V)}{k:Key}(e:H a=some (.dK kvs)):DG H a (kV k) (jC kvs k):= .inl ⟨kvs,k,.inl e,rfl,rfl⟩
theorem Te.k{H:Hp}{a:Addr}{kvs:List (Key×V)}{k:Key}{v:V}(e:H a=some (.dK kvs))(hl:kvs.length<sizeLine):Te H a (kV k) v (upd H a (.dK (putK kvs k v))):= .inl ⟨kvs,k,e,rfl,hl,rfl⟩
section
variable{X:Cx}{pins:List (Addr×Obj)}{σ:St}{H:Hp}{s:Shared}{a:Addr}{y v:V}{u r:Value}{o:Option V}{A:Around}{E:Value→Shared→Prop}
theorem Inv.big(I:Inv X pins σ H s):sysModules<s.heap.objs.size:=by
 have h:mainGlobals<s.heap.objs.size:=(I.mod.glob.keeps I.bk).lt
 exact Nat.lt_trans (by decide) h
theorem Tf{Q:Value→Shared→Prop}(hu:A.units+1<cLine)(I:Inv X pins σ H s)(g:DG H a y (some v))(ry:RelV y u)(h: ∀w' s',Inv X pins σ H s'→RelV v w'→Q w' s'):
  wpAny (model X.prog X.w) A (getItem (.ref a) u) Q E s:=by
 rcases g with⟨kvs,k,e,ey,l⟩|⟨kvs,k,b,e,ey,eb,l⟩
 ·subst ey
  obtain⟨z,hd,vs,rel,dd⟩:=M6 I.hok e
  obtain⟨w',hw,rw'⟩:=tR.some_of (v:=v) (o:=valueAt vs k) (by rw[l];exact rel.val k)
  exact wpAny_getItem_of (M5 ry) dd.mapOf hw (h w' _ (I.tok _) rw')
 ·subst ey
  cases (show u=Value.ref b from ry)
  obtain⟨z,hd,xs,rel,dd⟩:=M7 I.hok e
  obtain⟨w',hw,rw'⟩:=tR.some_of (v:=v) (o:=(atKey xs k).map (·.2)) (by rw[l];exact rel.val k)
  obtain⟨p,hp,hp2⟩:=Option.map_eq_some_iff.mp hw
  refine wpAny_getItem_heap (tupleKind_room_in1 hu) (JG I.hok eb) dd hp ?_
  rw[hp2]
  exact h w' _ (I.tok _) rw'
theorem XC{Q:Value→Shared→Prop}(hu:A.units+1<cLine)(I:Inv X pins σ H s)(g:DG H a y o)(ry:RelV y u)(h: ∀s',Inv X pins σ H s'→Q (.bool (!o.isSome)) s'):
  wpAny (model X.prog X.w) A (compareOp .NotIn u (.ref a)) Q E s:=by
 rcases g with⟨kvs,k,e,ey,l⟩|⟨kvs,k,b,e,ey,eb,l⟩
 ·subst ey
  obtain⟨z,hd,vs,rel,dd⟩:=M6 I.hok e
  refine wpAny_notIn_of (M5 ry) hd dd.mapOf ?_
  rw[←(rel.val k).zP,←l]
  exact h _ (I.tok _)
 ·subst ey
  cases (show u=Value.ref b from ry)
  obtain⟨z,hd,xs,rel,dd⟩:=M7 I.hok e
  refine wpAny_notIn_heap (tupleKind_room_in1 hu) (JG I.hok eb) hd dd ?_
  have q:=(rel.val k).zP
  rw[Option.isSome_map] at q
  rw[←q,←l]
  exact h _ (I.tok _)
theorem JH{h':Heap}{t':Nat}{ob:HO}(I:Inv X pins σ H s)(mu:Mut (H a))(hs:Heap.SameBut a s.heap h')(he: ∃q,h'.get? a=some q)(new:fP X.prog X.w (upd H a ob) h' a ob):
  Inv X pins σ (upd H a ob) {s with heap:=h',toks:=t'}:=
 I.write (x:=a) (e:=a) mu (.inl rfl) (fun b q hb z=>(hs.2 b hb).trans z) he new
theorem VB{P:Program}{w:World}{H':Hp}{h':Heap}{kvs:List (Key×V)}{vs:List (Key×Value)}(z:kvs.length≤sizeLine)(hd:(a==sysModules)=false)(rel:KV kvs vs)(dd:h'.DictOf (gP P w) a vs):
  fP P w H' h' a (.dK kvs):=⟨z,hd,vs,rel,dd⟩
theorem Tg{H':Hp}{Q:Unit→Shared→Prop}(hu:A.units+1<cLine)(I:Inv X pins σ H s)(g:Te H a y v H')(ry:RelV y u)(rv:RelV v r)(h: ∀s',Inv X pins σ H' s'→Q () s'):
  wpAny (model X.prog X.w) A (setItem (.ref a) u r) Q E s:=by
 rcases g with⟨kvs,k,e,ey,l,eH⟩|⟨kvs,k,b,e,ey,eb,l,eH⟩
 ·subst ey eH
  obtain⟨z,hd,vs,rel,dd⟩:=YM I.hok e
  have hz:vs.length≤sizeLine:=by rw[←rel.length];exact z
  have hl:(putK kvs k v).length≤sizeLine:=by have:=n8 kvs k v;omega
  refine wpAny_setItem_pairs (hsz:=hz) (M5 ry) dd fun h' dd' hs=>h _ ?_
  have he: ∃q,h'.get? a=some q:=let ⟨q,_,_,hq,_⟩:=dd';⟨q,hq⟩
  exact JH I (by rw[e];exact True.intro) hs he (VB hl hd (rel.put k rv) dd')
 ·subst ey eH
  cases (show u=Value.ref b from ry)
  obtain⟨z,hd,xs,rel,dd⟩:=aaW I.hok e
  have hz:xs.length≤sizeLine:=by rw[←Paired.length rel];exact z
  have hl:(putK kvs k v).length≤sizeLine:=by have:=n8 kvs k v;omega
  refine wpAny_setItem_heap (hsz:=hz) (tupleKind_room_in1 hu) (JG I.hok eb) dd fun h' dd' hs=>h _ ?_
  obtain⟨q,es,ep,hq,h2,h3,h4,_,h5⟩:=dd'
  refine JH I (by rw[e];exact True.intro) hs ⟨q,hq⟩ ⟨hl,hd,_,(rel.put k eb rv).keeps fun c ys ec=>?_,q,es,ep,hq,h2,h3,h4,h5⟩
  rw[aJ (d8 ec e (fun z=>nomatch z))]
  exact ec
end
section
variable{X:Cx}{pins:List (Addr×Obj)}{σ:St}{H:Hp}{s:Shared}{a:Addr}{kvs:List (Key×V)}{k:Key}{u:Value}{A:Around}{E:Value→Shared→Prop}
theorem aaX{v:V}{more:List Value}{Q:Value→Shared→Prop}(I:Inv X pins σ H s)(e:H a=some (.dK kvs))(ry:RelV (kV k) u)(l:jC kvs k=some v)(hm:more=[]∨∃x,more=[x])
  (h: ∀w' s',Inv X pins σ (upd H a (.dK (n6 kvs k))) s'→RelV v w'→Q w' s'):wpAny (model X.prog X.w) A (call (.builtin "dict.pop") (.ref a::u::more)) Q E s:=by
 obtain⟨z,hd,vs,rel,dd⟩:=YM I.hok e
 obtain⟨w',hw,rw'⟩:=tR.some_of (v:=v) (o:=valueAt vs k) (by rw[←l];exact rel.val k)
 have hp:(keyPart u).isSome=true:=by
  cases k with
  |inl i=>obtain⟨t,q⟩:=(show∃t,u=Value.int i t from ry);subst q;rfl
  |inr x=>obtain⟨t,q⟩:=(show∃t,u=Value.str x t from ry);subst q;rfl
 have ha:argsOk "dict.pop" ⟨.ref a::u::more,[]⟩:=by
  rcases hm with q|⟨x,q⟩
  ·subst q;exact PySem.F.args_dict_pop_2 _ _
  ·subst q;exact PySem.F.args_dict_pop_3 _ _ _
 refine call_meetsIn PySem.F.slot_dict_pop dd.typeIs PySem.F.entry_dict_pop ha (meets_dict_pop_there (gP X.prog X.w) a (M5 ry) more hm hp)
  ⟨vs,w',dd,by rw[←rel.length];exact z,hw,fun h' dd' hs=>h w' _ ?_ rw'⟩
 have he: ∃q,h'.get? a=some q:=let ⟨q,_,_,hq,_⟩:=dd';⟨q,hq⟩
 exact JH I (by rw[e];exact True.intro) hs he (VB (Nat.le_trans (Vz kvs k) z) hd (rel.drop k) dd')
end
def NoSl(i:Expr):Prop:=∀ov iv,subscripted i false ov iv=operate [ov,iv] (getItem ov iv)
theorem XD{prog:Program}{w:World}{A:Around}{E:Value→Shared→Prop}{s:Shared}{env:Env}{value slice:Expr}{pos:Pos}{T id:String}{Q:Value→Shared→Prop}
  (hl:typeLookup (.type T) "__getitem__"=pure (some (.builtin id))) (hs:NoSl slice)
  (h:wpAny (model prog w) A (eval value env) (fun o s₁=>wpAny (model prog w) A (eval slice env) (fun i s₂=>s₂.TypeIs o T∧wpAny (model prog w) A (getItem o i) Q E s₂) E s₁) E s):
  wpAny (model prog w) A (eval (.Subscript value slice pos) env) Q E s:=by
 refine Subscript_ (wpAny_mono h (fun o s₁ h₁=>wpAny_mono h₁ (fun i s₂ h₂=>?_) fun _ _ x=>x) fun _ _ x=>x)
 obtain⟨hT,h₂⟩:=h₂
 unfold subscriptTail
 refine wpAny_bind ?_
 rw[getitemInPython_of_ne hT.not_modules]
 refine wpAny_bind (wpAny_specialOf hT hl ?_)
 have fin:wpAny (model prog w) A (subscripted slice false o i) (fun r s₃=>wpAny (model prog w) A (letTemporaryGo value o r>>=fun _=>pure r) Q E s₃) E s₂:=by
  rw[hs o i]
  exact wpAny_operating (wpAny_mono h₂ (fun r s₃ h₃=>wpAny_bind (wpAny_letTemporaryGo (wpAny_pure h₃))) fun _ _ x=>x)
 first
  |exact wpAny_pure (wpAny_bind fin)
  |exact wpAny_bind (wpAny_pure (wpAny_bind fin))
  |exact wpAny_bind fin
theorem M8{X:Cx}{pins:List (Addr×Obj)}{σ:St}{H:Hp}{s:Shared}{a:Addr}{y:V}{o:Option V}(I:Inv X pins σ H s)(g:DG H a y o):s.TypeIs (.ref a) "dict":=by
 rcases g with⟨kvs,k,e,_,_⟩|⟨kvs,k,b,e,_,_,_⟩
 ·obtain⟨_,_,vs,_,dd⟩:=M6 I.hok e
  exact dd.typeIs
 ·obtain⟨_,_,xs,_,dd⟩:=M7 I.hok e
  exact dd.typeIs
def aaZ(td ty:TE):TE:=fun σ H Q=>td σ H fun x H1=>ty σ H1 fun y H2=>∃a v,x= .ref a∧DG H2 a y (some v)∧Q v H2
def XF(ty td:TE):TE:=fun σ H Q=>ty σ H fun y H1=>td σ H1 fun x H2=>∃a o,x= .ref a∧DG H2 a y o∧Q (.bl (!o.isSome)) H2
def YQ(td ty tv:TE):TS:=fun D σ H=>tv σ H fun v H1=>td σ H1 fun x H2=>ty σ H2 fun y H3=>∃a H4,x= .ref a∧Te H3 a y v H4∧D.nx σ H4
section
variable{X:Cx}{o i e value:Expr}{pos pos' tpos:Pos}{td ty tv:TE}
theorem RJ(hu:X.A.units+1<cLine)(ho:PE X o td)(hi:PE X i ty)(hs:NoSl i):PE X (.Subscript o i pos) (aaZ td ty):=by
 intro pins s σ H Q I h
 refine XD PySem.F.slot_dict_getitem.lookup hs (thn (ho pins s σ H _ I h) fun u s1 ⟨x,H1,I1,rx,q1⟩=>thn (hi pins s1 σ H1 _ I1 q1) fun iv s2 ⟨y,H2,I2,ry,a,v,ex,g,q2⟩=>?_)
 subst ex
 obtain rfl:u=Value.ref a:=rx
 exact⟨M8 I2 g,Tf hu I2 g ry fun w' s3 I3 rw'=>⟨v,H2,I3,rw',q2⟩⟩
theorem Ij(hu:X.A.units+1<cLine)(hi:PE X i ty)(ho:PE X o td):PC X .NotIn i o (XF ty td):=by
 intro pins s σ H Q I h
 refine thn (hi pins s σ H _ I h) fun iv s1 ⟨y,H1,I1,ry,q1⟩=>thn (ho pins s1 σ H1 _ I1 q1) fun u s2 ⟨x,H2,I2,rx,a,ov,ex,g,q2⟩=>?_
 subst ex
 obtain rfl:u=Value.ref a:=rx
 exact XC hu I2 g ry fun s3 I3=>⟨.bl (!ov.isSome),H2,I3,rfl,q2⟩
theorem RK(hu:X.A.units+1<cLine)(ho:PE X o td)(hi:PE X i ty)(hv:PE X value tv)(hs:swapsWith value (some (.Subscript o i pos')) pos.line X.env=pure false):
  PS X (.Assign [.Subscript o i pos'] value pos) (YQ td ty tv):=by
 intro pins s σ H D I h
 refine wpAny_Assign_Subscript (thn (hv pins s σ H _ I h) fun r s1 ⟨v,H1,I1,rv,q1⟩=>thn (ho pins s1 σ H1 _ I1 q1) fun u s2 ⟨x,H2,I2,rx,q2⟩=>thn (hi pins s2 σ H2 _ I2 q2) fun iv s3 ⟨y,H3,I3,ry,a,H4,ex,g,q3⟩=>?_) hs
 subst ex
 obtain rfl:u=Value.ref a:=rx
 exact Tg hu I3 g ry rv fun s4 I4=>⟨σ,H4,I4,q3⟩
end
theorem VD{P:Program}{w:World}{H:Hp}(h:Heap)(hb:sysModules<h.objs.size):fP P w H (h.push {cls:= .type "dict",data:= .dict #[]}) h.objs.size (.dK []):=
 ⟨Nat.zero_le _,beq_eq_false_iff_ne.mpr (Ne.symm (Nat.ne_of_lt hb)),[],.nil,Heap.DictOf.new h⟩
def ZP:TE:=fun _ H Q=>∀p,H p=none→Q (.ref p) (upd H p (.dK []))
section
variable{X:Cx}{pos:Pos}
theorem M9:PE X (.Dict [] [] pos) ZP:=fun pins s σ H Q I h=>
 wpAny_Dict_empty ⟨.ref s.heap.objs.size,_,I.laid (a:=s.heap.objs.size) (o:= .dK []) (t':=s.toks) (fun _ _ q=>Heap.get?_push_of_some _ q) (Nat.le_refl _) (VD s.heap I.big),rfl,h _ (I.hok.fresh (Nat.le_refl _))⟩
end
structure M1(X:Cx)(o:Expr)(m:Str)(apos:Pos)(e:Expr)(cpos:Pos):Prop where
 base:attributeBase o m X.env (eval o X.env)=eval o X.env
 few:((backTo cpos (starEach [e] X.env)).all (fun x=> !x.1)&&(backToKw cpos (keywordEach [] X.env)).all (fun x=>x.1.isSome)
  &&decide (([e]:List Expr).length+([]:List Keyword).length+(if([]:List Keyword).isEmpty then 0 else 1)<30))=true
 line:(apos.endLine==cpos.line)=true
 trees:backTo cpos (starEach [e] X.env)=[(false,eval e X.env)]
def IsD(H:Hp)(a:Addr):Prop:=(∃kvs,Rd H a (.dK kvs))∨∃kvs,Rd H a (.dT kvs)
theorem ZQ{X:Cx}{pins:List (Addr×Obj)}{σ:St}{H:Hp}{s:Shared}{a:Addr}(I:Inv X pins σ H s)(d:IsD H a):
  s.TypeIs (.ref a) "dict"∧(∀b,Value.ref a= .ref b→∃ob,s.heap.get? b=some ob∧ob.dict=none)∧(a==sysModules)=false:=by
 rcases d with⟨kvs,e⟩|⟨kvs,e⟩
 ·obtain⟨_,hd,vs,_,dd⟩:=M6 I.hok e
  refine⟨dd.typeIs,fun b q=>?_,hd⟩
  cases q
  obtain⟨ob,_,_,h1,h2,_⟩:=dd
  exact⟨ob,h1,h2.2.1⟩
 ·obtain⟨_,hd,xs,_,dd⟩:=M7 I.hok e
  refine⟨dd.typeIs,fun b q=>?_,hd⟩
  cases q
  obtain⟨ob,_,_,h1,h2,_⟩:=dd
  exact⟨ob,h1,h2.2.1⟩
section
variable{X:Cx}{pins:List (Addr×Obj)}{σ:St}{H:Hp}{s:Shared}{a:Addr}{y d:V}{u r:Value}{o:Option V}{A:Around}{E:Value→Shared→Prop}
end
def ZR(td ty:TE):TE:=fun σ H Q=>td σ H fun x H1=>∃a,x= .ref a∧IsD H1 a∧ty σ H1 fun y H2=>∃kvs k v,H2 a=some (.dK kvs)∧y=kV k∧jC kvs k=some v∧Q v (upd H2 a (.dK (n6 kvs k)))
section
variable{X:Cx}{o e f:Expr}{apos cpos:Pos}{td ty tx:TE}
theorem VF(ho:PE X o td)(he:PE X e ty)(m:M1 X o "pop" apos e cpos):PE X (.Call (.Attribute o "pop" apos) [e] [] cpos) (ZR td ty):=by
 intro pins s σ H Q I h
 refine wpAny_Call_method m.base m.few m.line PySem.F.plainAttrs_dict PySem.F.slot_dict_pop PySem.F.type_dict_pop (thn (ho pins s σ H _ I h) fun u s1 ⟨x,H1,I1,rx,a,ex,d,q1⟩=>?_)
 subst ex
 obtain rfl:u=Value.ref a:=rx
 obtain⟨t1,t2,_⟩:=ZQ I1 d
 refine⟨t1,t2,?_⟩
 rw[m.trees]
 refine Calls.callWith_builtin rfl (Calls.evalArgs_plain (Calls.spliced_cons (thn (he pins s1 σ H1 _ I1 q1) fun iv s2 ⟨y,H2,I2,ry,kvs,k,v,ea,ey,l,q2⟩=>Calls.spliced_nil ?_)))
 subst ey
 exact aaX I2 ea ry l (.inl rfl) fun w' s3 I3 rw'=>⟨v,_,I3,rw',q2⟩
end
section
variable{X:Cx}{pins:List (Addr×Obj)}{σ:St}{H:Hp}{s:Shared}{a:Addr}{kvs:List (Key×V)}{A:Around}{E:Value→Shared→Prop}
end
section
variable{X:Cx}{pins:List (Addr×Obj)}{σ:St}{H:Hp}{s:Shared}{a:Addr}{y:V}{u:Value}{A:Around}{E:Value→Shared→Prop}
end
section
variable{prog:Program}{w:World}{A:Around}{E:Value→Shared→Prop}
end
section
variable{X:Cx}
end
section
variable{X:Cx}{pins:List (Addr×Obj)}{σ:St}{H:Hp}{s:Shared}{h':Heap}
theorem Inv.XH{t':Nat}{ch:List Addr}(I:Inv X pins σ H s)(k: ∀b o,b∉ch→s.heap.get? b=some o→h'.get? b=some o)(hf: ∀b∈ch,zJ X pins H b):Inv X pins σ H {s with heap:=h',toks:=t'}:=by
 have nit: ∀b u,H b=some u→b∉ch:=fun b u e z=>by
  have q:=(hf b z).1
  rw[q] at e;cases e
 refine I.step (g':=s.gens) (d':=s.drawn) (ch:=ch) (fun b hb=>⟨(hf b hb).2.2.2.1,(hf b hb).2.1,(hf b hb).2.2.2.2.1,(hf b hb).2.2.2.2.2⟩) (fun b o _ _ hc e _=>k b o hc e) (fun b o _ _ hc e _=>⟨o.slots,k b o hc e⟩)
  (fun _ _ _ _ n=>n) (fun b o hc e=>⟨o,k b o hc e⟩) (fun _ _ e=>e) (fun _ _ _ e=>e) (fun b ps e=>⟨#[],by rw[e];simp⟩) (fun m hm=>?_) (fun b u e=>?_) I.bare
 ·obtain⟨o,es,ep,ho,r⟩:=hm
  exact⟨o,es,ep,k _ o (fun z=>(hf _ z).2.1 rfl) ho,r⟩
 ·refine(I.hok b u e).stay (fun c v hc q=>k c v ?_ q) (fun _ q=>q) fun _ _ q=>q
  rcases hc with z|z
  ·rw[z];exact nit b u e
  ·exact nit c _ z
theorem Inv.Ik{t':Nat}{ch:List Addr}{T:Addr}{ob:HO}(I:Inv X pins σ H s)(k: ∀b o,b∉ch→s.heap.get? b=some o→h'.get? b=some o)(hf: ∀b∈ch,zJ X pins H b)(hT:s.heap.objs.size≤T)
  (new:fP X.prog X.w (upd H T ob) h' T ob):Inv X pins σ (upd H T ob) {s with heap:=h',toks:=t'}:=by
 have hn:H T=none:=I.hok.fresh hT
 have nit: ∀b u,H b=some u→b∉ch:=fun b u e z=>by
  have q:=(hf b z).1
  rw[q] at e;cases e
 refine I.step (g':=s.gens) (d':=s.drawn) (ch:=ch) (fun b hb=>⟨(hf b hb).2.2.2.1,(hf b hb).2.1,(hf b hb).2.2.2.2.1,(hf b hb).2.2.2.2.2⟩) (fun b o _ _ hc e _=>k b o hc e) (fun b o _ _ hc e _=>⟨o.slots,k b o hc e⟩)
  (fun b o _ e n=>?_) (fun b o hc e=>⟨o,k b o hc e⟩) (fun b xs e=>?_) (fun b o u e=>?_) (fun b ps e=>⟨#[],?_⟩) (fun m hm=>?_) (fun b u e=>?_) I.bare
 ·rw[aJ (Nat.ne_of_lt (Nat.lt_of_lt_of_le (Heap.lt_size e) hT))];exact n
 ·rw[aJ (aG e hn)];exact e
 ·rw[aJ (aG e hn)];exact e
 ·rw[aJ (aG e hn),e];simp
 ·obtain⟨o,es,ep,ho,r⟩:=hm
  exact⟨o,es,ep,k _ o (fun z=>(hf _ z).2.1 rfl) ho,r⟩
 ·by_cases hb:b=T
  ·subst hb
   rw[aA] at e
   cases e
   exact new
  ·rw[aJ hb] at e
   refine(I.hok b u e).stay (fun c v hc q=>k c v ?_ q) (fun c q=>by rw[aJ (aG q hn)];exact q) fun c xs q=>by rw[aJ (aG q hn)];exact q
   rcases hc with z|z
   ·rw[z];exact nit b u e
   ·exact nit c _ z
end
section
variable{X:Cx}
end
section
variable{X:Cx}{tg:Expr}
end
section
variable{prog:Program}{w:World}{A:Around}{E:Value→Shared→Prop}{s:Shared}
end
section
variable{X:Cx}{pins:List (Addr×Obj)}{σ:St}{H:Hp}{s:Shared}{d:Addr}{o:Obj}
end
section
variable{P:Program}{w:World}{K:PySem.W.Frag}{tg:Expr}{d:Addr}{o:Obj}{es:Array DictEntry}{ep:Nat}
end
section
variable{X:Cx}{tg e:Expr}{td:TE}{apos cpos:Pos}
end
def Ite(K:PySem.W.Frag)(a:Addr):It:=
 ⟨fun i H=>∃(xs:List V) (x:V),SqL K H a xs∧xs[i]?=some x,fun i H v H'=>∃T x,v= .ref T∧H T=none∧H'=upd H T (.tup [.int (i:Nat),x])∧∀xs,SqL K H a xs→xs[i]?=some x,fun i H=>∃xs:List V,SqL K H a xs∧xs.length≤i⟩
theorem Ti{P:Program}{w:World}{K:PySem.W.Frag}{elts:List Expr}{kk:Nat}{tpos:Pos}(a e it:Addr):
  Turn P w K (.Tuple elts kk tpos) (Ite K a) [e,it] e (fun i h=>(∃old,IsEnum h e it ((i:Nat):Int) old)∧h.IsListIter it a i∧e≠it) where
 mem:=by simp
 obj:=fun i h st b hb=>by
  obtain⟨⟨old,he⟩,⟨o,ho,hc,hd⟩,_⟩:=st
  have e':b=e∨b=it:=by simpa using hb
  rcases e' with z|z
  ·rw[z];exact⟨_,he,fun v q=>nomatch q⟩
  ·rw[z];exact⟨o,ho,fun v q=>by rw[hd] at q;cases q⟩
 keep:=fun i h h' st k=>let ⟨⟨old,he⟩,hi,hne⟩:=st;⟨⟨old,k e (by simp) _ he⟩,hi.at fun o q=>k it (by simp) o q,hne⟩
 item:=by
  intro X hP hw hK hc i pins s σ H E I hf st hg
  subst hP hw hK
  obtain⟨⟨old,he⟩,hit,hne⟩:=st
  obtain⟨xs,x,hq,hx⟩:=hg
  obtain⟨its,rv,p,hz⟩:=I.list hq
  obtain⟨u,hu,ru⟩:=rv.get hx
  have hel:e<s.heap.objs.size:=Heap.lt_size he
  have hil:it<s.heap.objs.size:=by obtain⟨_,q,_⟩:=hit;exact Heap.lt_size q
  refine wpAny_pyNext_enum_item he hit p.isList (x:=u) (by simpa using hu) hne fun h' ho hit' hT hsz hk=>?_
  refine⟨_,rfl,wpAny_letOwnedTupleGo_enum (s:={s with heap:=h',toks:=s.toks+1}) ho fun h'' he' sb=>?_⟩
  have hT2:h''.get? s.heap.objs.size=some {cls:= .type "tuple",data:= .seq #[.int i s.toks,u]}:=(sb.2 _ (Nat.ne_of_gt hel)).trans hT
  have new:fP X.prog X.w (upd H s.heap.objs.size (.tup [.int (i:Nat),x])) h'' s.heap.objs.size (.tup [.int (i:Nat),x]):=
   ⟨by show 2≤sizeLine;decide,[.int i s.toks,u],.cons ⟨_,rfl⟩ (.cons ru .nil),⟨_,hT2,rfl,_,rfl⟩⟩
  have I1:Inv X pins σ (upd H s.heap.objs.size (.tup [.int (i:Nat),x])) {s with heap:=h'',toks:=s.toks+1}:=
   I.Ik (ch:=[e,it]) (fun b ob hb q=>(sb.2 b (fun z=>hb (by simp[z]))).trans (hk b ob (fun z=>hb (by simp[z])) (fun z=>hb (by simp[z])) q)) hf (Nat.le_refl _) new
  refine⟨.ref s.heap.objs.size,_,I1,rfl,⟨_,x,rfl,I.hok.fresh (Nat.le_refl _),rfl,fun ys hy=>by rw[I.xY hy hq];exact hx⟩,⟨⟨u,?_⟩,hit'.at fun o q=>(sb.2 it (Ne.symm hne)).trans q,hne⟩,fun b hb=>?_⟩
  ·have e1:((i+1:Nat):Int)=(i:Int)+1:=by omega
   rw[e1];exact he'
  ·have hb':b<s.heap.objs.size:=by
    have e':b=e∨b=it:=by simpa using hb
    rcases e' with z|z
    ·rw[z];exact hel
    ·rw[z];exact hil
   rw[aJ (Nat.ne_of_lt hb')]
   exact(hf b hb).1
 done:=by
  intro X hP hw hK hc i pins s σ H E I hf st hg
  subst hP hw hK
  obtain⟨⟨old,he⟩,hit,hne⟩:=st
  obtain⟨xs,hq,hx⟩:=hg
  obtain⟨its,rv,p,hz⟩:=I.list hq
  obtain⟨f0,f1,f2,f3,f4,f5⟩:=hf it (by simp)
  have hl:=rv.length
  exact wpAny_pyNext_enum_end (I.ok.hd hc) he hit p.isList (by simp;omega) fun h' eb=>⟨rfl,I.turned (t':=s.toks) (fun b o hb q=>eb b o hb q) f0 f1 f3 f4 f5⟩
 self:=fun A i s Q E st h=>let ⟨⟨_,he⟩,_⟩:=st;wpAny_pyIter_enum he h
def aa0(K:PySem.W.Frag)(ta:TA):TI:=fun σ H R=>ta σ H fun vs H1=>∃a xs,vs=[.ref a]∧SqL K H1 a xs∧R (Ite K a) H1
theorem vL{X:Cx}{e:Expr}{ta:TA}{p pos tpos:Pos}{elts:List Expr}{kk:Nat}(hg:Gl X "enumerate")(hm:X.mg "enumerate"=none)(ha:PA X [e] ta)(hs:starEach [e] X.env=[(false,eval e X.env)]:=by rfl):
  PI X (.Tuple elts kk tpos) (.Call (.Name "enumerate" p) [e] [] pos) (aa0 X.K ta):=by
 intro pins s σ H R I h
 refine Call_ (tV I hg hm boot_enumerate (PyProof.Rows.callWith_type1 (thn (ha pos pins s σ H _ I h) fun us s1 ⟨vs,H1,I1,r1,q1⟩=>?_) hs rfl))
 obtain⟨a,xs,ex,hq,q⟩:=q1
 subst ex
 cases r1 with
 |cons r rr=>
  cases rr
  cases r
  obtain⟨its,rv,p',hz⟩:=I1.list hq
  refine call_enumerate_list p'.isList fun h' he hit hsz hk=>wpAny_pyIter_enum he ?_
  have I2:Inv X pins σ H1 {s1 with heap:=h'}:=I1.kept (t':=s1.toks) hk
  refine⟨s1.heap.objs.size+1,[s1.heap.objs.size+1,s1.heap.objs.size],_,_,H1,rfl,I2,Ti a (s1.heap.objs.size+1) s1.heap.objs.size,⟨⟨.none,he⟩,hit,Nat.succ_ne_self _⟩,fun b hb=>?_,q⟩
  have e':b=s1.heap.objs.size+1∨b=s1.heap.objs.size:=by simpa using hb
  have hle:s1.heap.objs.size≤b:=by
   rcases e' with z|z
   ·rw[z];exact Nat.le_add_right _ _
   ·rw[z];exact Nat.le_refl _
  exact I1.Py hle (I1.hok.fresh hle)
theorem Tj:bootBuiltins "zip"=some (.type "zip"):=by decide+kernel
def Itz(K:PySem.W.Frag)(a b:Addr):It:=
 ⟨fun i H=>∃(xs ys:List V) (x y:V),SqL K H a xs∧SqL K H b ys∧xs[i]?=some x∧ys[i]?=some y,
  fun i H v H'=>∃T x y,v= .ref T∧H T=none∧H'=upd H T (.tup [x,y])∧(∀xs,SqL K H a xs→xs[i]?=some x)∧∀ys,SqL K H b ys→ys[i]?=some y,
  fun i H=>∃xs ys:List V,SqL K H a xs∧SqL K H b ys∧(xs.length≤i∨ys.length≤i)⟩
theorem VG{P:Program}{w:World}{K:PySem.W.Frag}{elts:List Expr}{kk:Nat}{tpos:Pos}{a b z TI TO i1 i2:Addr}(D:ZipApart z TI TO i1 i2 a b):
  Turn P w K (.Tuple elts kk tpos) (Itz K a b) [z,TI,TO,i1,i2] z (fun i h=>IsZip h z TI TO .none∧IsPair h TI (.ref i1) (.ref i2)∧(∃x y,IsPair h TO x y)∧h.IsListIter i1 a i∧h.IsListIter i2 b i) where
 mem:=by simp
 obj:=fun i h st c hc=>by
  obtain⟨hz,hTI,⟨x,y,hTO⟩,⟨o1,e1,_,d1⟩,⟨o2,e2,_,d2⟩⟩:=st
  have e':c=z∨c=TI∨c=TO∨c=i1∨c=i2:=by simpa using hc
  rcases e' with q|q|q|q|q
  ·rw[q];exact⟨_,hz,fun v q=>nomatch q⟩
  ·rw[q];exact⟨_,hTI,fun v q=>nomatch q⟩
  ·rw[q];exact⟨_,hTO,fun v q=>nomatch q⟩
  ·rw[q];exact⟨o1,e1,fun v q=>by rw[d1] at q;cases q⟩
  ·rw[q];exact⟨o2,e2,fun v q=>by rw[d2] at q;cases q⟩
 keep:=fun i h h' st k=>by
  obtain⟨hz,hTI,⟨x,y,hTO⟩,h1,h2⟩:=st
  exact⟨k z (by simp) _ hz,k TI (by simp) _ hTI,⟨x,y,k TO (by simp) _ hTO⟩,h1.at fun o q=>k i1 (by simp) o q,h2.at fun o q=>k i2 (by simp) o q⟩
 item:=by
  intro X hP hw hK hc i pins s σ H E I hf st hg
  subst hP hw hK
  obtain⟨hz,hTI,⟨x0,y0,hTO⟩,h1,h2⟩:=st
  obtain⟨xs,ys,x,y,hqx,hqy,hx,hy⟩:=hg
  obtain⟨its,rv,p,_⟩:=I.list hqx
  obtain⟨its2,rv2,p2,_⟩:=I.list hqy
  obtain⟨u,hu,ru⟩:=rv.get hx
  obtain⟨u2,hu2,ru2⟩:=rv2.get hy
  have hzl:z<s.heap.objs.size:=Heap.lt_size hz
  refine wpAny_pyNext_zip_item D hz hTI hTO h1 h2 p.isList p2.isList (x:=u) (y:=u2) (by simpa using hu) (by simpa using hu2) fun h' z' TO' h1' h2' hT hsz hk=>?_
  refine⟨_,rfl,wpAny_letOwnedTupleGo_zip (s:={s with heap:=h'}) z' fun h'' z'' sb=>?_⟩
  have hT2:h''.get? s.heap.objs.size=some {cls:= .type "tuple",data:= .seq #[u,u2]}:=(sb.2 _ (Nat.ne_of_gt hzl)).trans hT
  have new:fP X.prog X.w (upd H s.heap.objs.size (.tup [x,y])) h'' s.heap.objs.size (.tup [x,y]):=
   ⟨by show 2≤sizeLine;decide,[u,u2],.cons ru (.cons ru2 .nil),⟨_,hT2,rfl,_,rfl⟩⟩
  have I1:Inv X pins σ (upd H s.heap.objs.size (.tup [x,y])) {s with heap:=h''}:=
   I.Ik (t':=s.toks) (ch:=[z,TI,TO,i1,i2]) (fun c o hb q=>(sb.2 c (fun q'=>hb (by simp[q']))).trans (hk c o (fun q'=>hb (by simp[q'])) (fun q'=>hb (by simp[q'])) (fun q'=>hb (by simp[q'])) (fun q'=>hb (by simp[q'])) q)) hf (Nat.le_refl _) new
  refine⟨.ref s.heap.objs.size,_,I1,rfl,⟨_,x,y,rfl,I.hok.fresh (Nat.le_refl _),rfl,fun l hl=>by rw[I.xY hl hqx];exact hx,fun l hl=>by rw[I.xY hl hqy];exact hy⟩,⟨z'',?_,⟨u,u2,?_⟩,?_,?_⟩,fun c hcm=>?_⟩
  ·exact(sb.2 _ D.TIz).trans (hk _ _ D.TIz D.TITO D.TIi1 D.TIi2 hTI)
  ·exact(sb.2 _ D.TOz).trans TO'
  ·exact h1'.at fun o q=>(sb.2 _ D.i1z).trans q
  ·exact h2'.at fun o q=>(sb.2 _ D.i2z).trans q
  ·have hlt:c<s.heap.objs.size:=by
    have e':c=z∨c=TI∨c=TO∨c=i1∨c=i2:=by simpa using hcm
    rcases e' with q|q|q|q|q
    ·rw[q];exact hzl
    ·rw[q];exact Heap.lt_size hTI
    ·rw[q];exact Heap.lt_size hTO
    ·rw[q];obtain⟨_,e1,_⟩:=h1;exact Heap.lt_size e1
    ·rw[q];obtain⟨_,e2,_⟩:=h2;exact Heap.lt_size e2
   rw[aJ (Nat.ne_of_lt hlt)]
   exact(hf c hcm).1
 done:=by
  intro X hP hw hK hc i pins s σ H E I hf st hg
  subst hP hw hK
  obtain⟨hz,hTI,⟨x0,y0,hTO⟩,h1,h2⟩:=st
  obtain⟨xs,ys,hqx,hqy,hend⟩:=hg
  obtain⟨its,rv,p,_⟩:=I.list hqx
  obtain⟨its2,rv2,p2,_⟩:=I.list hqy
  have l1:=rv.length
  have l2:=rv2.length
  have he:its.toArray[i]?=none∨its2.toArray[i]?=none:=by
   rcases hend with q|q
   ·exact .inl (by simp;omega)
   ·exact .inr (by simp;omega)
  exact wpAny_pyNext_zip_end (I.ok.hd hc) D hz hTI hTO h1 h2 p.isList p2.isList he fun h' hk=>⟨rfl,I.XH (t':=s.toks) (ch:=[z,TI,TO,i1,i2]) (fun c o hb q=>
   hk c o (fun q'=>hb (by simp[q'])) (fun q'=>hb (by simp[q'])) (fun q'=>hb (by simp[q'])) (fun q'=>hb (by simp[q'])) q) hf⟩
 self:=fun A i s Q E st h=>wpAny_pyIter_zip st.1 h
def iZip(K:PySem.W.Frag)(ta:TA):TI:=fun σ H R=>ta σ H fun vs H1=>∃a b xs ys,vs=[.ref a,.ref b]∧SqL K H1 a xs∧SqL K H1 b ys∧R (Itz K a b) H1
theorem JK{X:Cx}{e e2:Expr}{ta:TA}{p pos tpos:Pos}{elts:List Expr}{kk:Nat}(hg:Gl X "zip")(hm:X.mg "zip"=none)(ha:PA X [e,e2] ta)
  (hs:starEach [e,e2] X.env=(false,eval e X.env)::starEach [e2] X.env:=by rfl) (hpl:(backTo pos (starEach [e2] X.env)).any (·.1)=false:=by rfl):
  PI X (.Tuple elts kk tpos) (.Call (.Name "zip" p) [e,e2] [] pos) (iZip X.K ta):=by
 intro pins s σ H R I h
 refine Call_ (tV I hg hm Tj (PyProof.Rows.callWith_type1 (thn (ha pos pins s σ H _ I h) fun us s1 ⟨vs,H1,I1,r1,q1⟩=>?_) hs hpl))
 obtain⟨a,b,xs,ys,ex,hqx,hqy,q⟩:=q1
 subst ex
 cases r1 with
 |cons r rr=>
  cases rr with
  |cons r' rr=>
   cases rr
   cases r
   cases r'
   obtain⟨its,rv,p1,_⟩:=I1.list hqx
   obtain⟨its2,rv2,p2,_⟩:=I1.list hqy
   have la:a<s1.heap.objs.size:=p1.lt
   have lb:b<s1.heap.objs.size:=p2.lt
   refine call_zip_2 p1.isList p2.isList fun h' hz hTI hTO h1 h2 hsz hk=>wpAny_pyIter_zip hz ?_
   have I2:Inv X pins σ H1 {s1 with heap:=h'}:=I1.kept (t':=s1.toks) hk
   refine⟨s1.heap.objs.size+4,[s1.heap.objs.size+4,s1.heap.objs.size+2,s1.heap.objs.size+3,s1.heap.objs.size,s1.heap.objs.size+1],_,_,H1,rfl,I2,VG (PySem.W.ktu_apart s1.heap.objs.size a b la lb),⟨hz,hTI,⟨_,_,hTO⟩,h1,h2⟩,fun c hcm=>?_,q⟩
   have e':c=s1.heap.objs.size+4∨c=s1.heap.objs.size+2∨c=s1.heap.objs.size+3∨c=s1.heap.objs.size∨c=s1.heap.objs.size+1:=by simpa using hcm
   have hle:s1.heap.objs.size≤c:=by
    rcases e' with z|z|z|z|z
    ·rw[z];exact Nat.le_add_right _ _
    ·rw[z];exact Nat.le_add_right _ _
    ·rw[z];exact Nat.le_add_right _ _
    ·rw[z];exact Nat.le_refl _
    ·rw[z];exact Nat.le_add_right _ _
   exact I1.Py hle (I1.hok.fresh hle)
end L2
section
namespace Bits
open PySem PyProof.Rows
end Bits
end
section
namespace TL
open PySem PySem.Builtin PySem.Builtin.Str PySem.StrLaws
end TL
end
namespace L2
open PySem PySem.Spec PyProof.Rows
section
variable{X:Cx}{pins:List (Addr×Obj)}{σ:St}{H:Hp}{s:Shared}{Q:VK}
end
section
variable{X:Cx}
end
section
variable{X:Cx}{o e:Expr}{to te:TE}
end
section
variable{X:Cx}
end
end L2
namespace Att
open PySem PySem.W PySem.Calls PyProof.Rows
section
variable{prog:Program}{w:World}{A:Around}{E:Value→Shared→Prop}{s:Shared}{K:Frag}
end
end Att
namespace L2
open PySem PySem.Spec PyProof.Rows
def inClass(s:Stmt)(j:Nat):Stmt:=match s with
 | .ClassDef _ _ _ body _ _ _ _ _ _ _=>body.getD j (.Pass ⟨0,0,0,0⟩)
 |_=> .Pass ⟨0,0,0,0⟩
def qQ(s:Stmt):Arguments:=match s with
 | .FunctionDef _ a _ _ _ _ _ _ _ _=>a
 |_=>{posonlyargs:=[],args:=[],vararg:=none,kwonlyargs:=[],kw_defaults:=[],kwarg:=none,defaults:=[]}
def mG(s:Stmt):List Stmt:=match s with
 | .FunctionDef _ _ b _ _ _ _ _ _ _=>b
 |_=>[]
def aO(s:Stmt):Scope:=match s with
 | .FunctionDef _ _ _ _ _ _ sc _ _ _=>sc
 |_=>{kind:= .function,names:=[],isGenerator:=false,isCoroutine:=false}
abbrev CX0:CXT:=fun _ _ _ _ _ _=>False
abbrev E0:XK:=fun _ _ _=>False
theorem Il{X:Cx}:Passes CX0 X E0:=fun _ _ _ _ _ _ _ h=>h.elim
structure Fun(K:PySem.W.Frag)(x qual:Str)(st:Stmt)(f:Addr)(fd:FuncData):Prop where
 ex: ∃(oc:Value) (od:Option Addr) (kV doc pm:Value) (an:Option Addr) (cdv ct:Value) (osl:Array (Option Value)),
  fd=PySem.W.fnOf x qual (qQ st) (mG st) (aO st) .none kV doc pm an cdv ct∧K.lookup f=some ⟨oc,od,.func fd,osl⟩∧PySem.W.codeIn K cdv qual=true
 kp:PySem.W.keepIn K (.ref f)=true
section
variable{P:Program}{w:World}{K:PySem.W.Frag}{mg:Str→Option Value}{base:Heap}
theorem Fun.ok{x qual:Str}{st:Stmt}{f:Addr}{fd:FuncData}{N ps:List Str}{k:Nat}{sp:Sp}(F:Fun K x qual st f fd)(S:aU N ps (aO st))(len: ∀vs H Q E,sp vs H Q E→vs.length=ps.length)
  (hbody: ∀(cdv:Value) (A:Around) (outer:List Env) (s:Shared) (H:Hp) (vs:List V) (Q:VK) (E:XK),gw k (A.deeper (envOfC qual (aO st) s.heap.objs.size f cdv))→sp vs H Q E→
   ∃t,PSs (Jz CX0 P w K mg base N qual (aO st) f cdv A outer s H E).nox (mG st) t∧t {nx:=fun _ H'=>Q .non H',rt:=Q} (start N vs) H):bJ P w K mg base CX0 (k+1) f fd ps sp:=by
 obtain⟨oc,od,kV,doc,pm,an,cdv,ct,osl,rfl,lk,hcd⟩:=F.ex
 refine YK lk hcd S len fun A outer s H vs Q E hr hsp=>?_
 obtain⟨t,h,q⟩:=hbody cdv A outer s H vs Q E hr hsp
 exact⟨t,h.nox,q⟩
theorem Fun.binds{x qual:Str}{st:Stmt}{f:Addr}{fd:FuncData}{ps:List Str}(F:Fun K x qual st f fd)
  (h: ∀(kV doc pm:Value) (an:Option Addr) (cdv ct:Value) (us:List Value),us.length=ps.length→bindArgs (PySem.W.fnOf x qual (qQ st) (mG st) (aO st) .none kV doc pm an cdv ct) ⟨us,[]⟩=pure (ps.zip us)):Binds K fd ps []:=by
 obtain⟨oc,od,kV,doc,pm,an,cdv,ct,osl,rfl,lk,hcd⟩:=F.ex
 exact .all (h kV doc pm an cdv ct)
theorem VH{x qual:Str}{st:Stmt}{f:Addr}{oc:Value}{od an:Option Addr}{osl:Array (Option Value)}{kV doc pm cdv ct:Value}(l:K.lookup f=some ⟨oc,od,.func (PySem.W.fnOf x qual (qQ st) (mG st) (aO st) .none kV doc pm an cdv ct),osl⟩)
  (c:PySem.W.codeIn K cdv qual=true) (k:PySem.W.keepIn K (.ref f)=true):Fun K x qual st f (PySem.W.fnOf x qual (qQ st) (mG st) (aO st) .none kV doc pm an cdv ct):=⟨⟨oc,od,kV,doc,pm,an,cdv,ct,osl,rfl,l,c⟩,k⟩
end
theorem Nb{A:Around}{k:Nat}(hr:gw k A):A.units+1<cLine:=Nat.lt_of_le_of_lt (Nat.add_le_add_left (by decide:1≤64) _) hr.units
section
variable{X:Cx}
theorem pv(i:Nat){x:Str}{pos:Pos}(hN:X.N[i]?=some x:=by rfl)(hv:Vis X.env.scope x:=by first|exact Or.inl rfl|exact Or.inr (Or.inl rfl)|exact Or.inr (Or.inr rfl))(hd:(x==("__debug__":Str))=false:=by decide)
  (hcd:(x==("__classdict__":Str))=false:=by decide):PE X (.Name x pos) (gW i):=Zi hN hv hd hcd
end
theorem cA{A B:Prop}(h:B):if false=true then A else B:=by
 rw[if_neg Bool.false_ne_true]
 exact h
theorem cB{A B:Prop}(h:A):if true=true then A else B:=by
 rw[if_pos rfl]
 exact h
theorem gA{c A B:Prop}[Decidable c](h1:c→A)(h2: ¬c→B):if c then A else B:=by
 by_cases h:c
 ·rw[if_pos h]
  exact h1 h
 ·rw[if_neg h]
  exact h2 h
def Same(H H':Hp):Prop:=∀b o,H b=some o→H' b=some o
theorem Same.refl(H:Hp):Same H H:=fun _ _ h=>h
theorem Same.trans{H H1 H2:Hp}(a:Same H H1)(b:Same H1 H2):Same H H2:=fun c o h=>b c o (a c o h)
theorem Same.free{H H':Hp}(e:Same H H'){l:Addr}(h:H' l=Option.none):H l=Option.none:=by
 cases q:H l with
 |none=>rfl
 |some o=>
  rw[e l o q] at h
  cases h
theorem Same.seq{K:PySem.W.Frag}{H H':Hp}{a:Addr}{xs:List V}(e:Same H H')(h:SqL K H a xs):SqL K H' a xs:=by
 rcases h with(h|⟨o,h⟩)|h
 ·exact .inl (.inl (e _ _ h))
 ·exact .inl (.inr ⟨o,e _ _ h⟩)
 ·exact .inr h
section
variable{κ:Type}[DecidableEq κ]
theorem JL: ∀{l:List κ} {k:κ},l.Nodup→¬k∈l→(l++[k]).Nodup
 |[],k,_,_=>by simp
 |a::r,k,h,hk=>by
  obtain⟨h1,h2⟩:=List.nodup_cons.mp h
  show(a::(r++[k])).Nodup
  refine List.nodup_cons.mpr ⟨fun m=>?_,JL h2 fun m=>hk (List.mem_cons.mpr (Or.inr m))⟩
  rcases List.mem_append.mp m with q|q
  ·exact h1 q
  ·exact hk (List.mem_cons.mpr (Or.inl (List.mem_singleton.mp q).symm))
theorem Tn{p:κ×V}{r:List (κ×V)}{k:κ}(e:p.1=k):n6 (p::r) k=n6 r k:=by
 unfold n6
 rw[List.filter_cons,if_neg (by simp[e])]
theorem Tt{p:κ×V}{r:List (κ×V)}{k:κ}(e: ¬p.1=k):n6 (p::r) k=p::n6 r k:=by
 unfold n6
 rw[List.filter_cons,if_pos (by simp[e])]
end
theorem at_of{xs:List V}{z:Int}{j:Nat}{v:V}(e:z=(j:Int))(h:xs[j]?=some v):atI xs z=some v:=by
 rw[e]
 exact JB h
theorem YS{α:Type}{l:List α}(hN:l.Nodup){i j:Nat}{x:α}(a:l[i]?=some x)(b:l[j]?=some x):i=j:=by
 obtain⟨h1,e1⟩:=List.getElem?_eq_some_iff.mp a
 obtain⟨h2,e2⟩:=List.getElem?_eq_some_iff.mp b
 exact(List.getElem_inj hN).mp (e1.trans e2.symm)
end L2
section
namespace L2
open PySem PySem.Spec PyProof.Rows
open PySem.W (WData Codec OpenSpec Well WellAll ReadsW ReadsAllW)
mutual
inductive Dw(K:PySem.W.Frag)(H:Hp):V→WData→Prop
 |non:Dw K H .non .none
 |bl (b:Bool):Dw K H (.bl b) (.bool b)
 |int (i:Int):Dw K H (.int i) (.int i)
 |str (x:Str):Dw K H (.str x) (.str x)
 |byt (b:Array UInt8):Dw K H (.byt b) (.bytes b.toList)
 |lst {a:Addr} {xs:List V} {ds:List WData}:SqL K H a xs→oh K H xs ds→Dw K H (.ref a) (.list ds)
 |tup {a:Addr} {xs:List V} {ds:List WData}:SqT K H a xs→oh K H xs ds→Dw K H (.ref a) (.tuple ds)
inductive oh(K:PySem.W.Frag)(H:Hp):List V→List WData→Prop
 |nil:oh K H [] []
 |cons {v:V} {vs:List V} {d:WData} {ds:List WData}:Dw K H v d→oh K H vs ds→oh K H (v::vs) (d::ds)
end
theorem RL{K:PySem.W.Frag}{H:Hp}: ∀ns:List Int,oh K H (ns.map V.int) (ns.map WData.int)
 |[]=> .nil
 |n::r=> .cons (.int n) (RL r)
theorem RM{K:PySem.W.Frag}{H:Hp}: ∀(ns:List Int) (xs:List V),oh K H xs (ns.map WData.int)→xs=ns.map V.int
 |[],xs,h=>by
  cases h
  rfl
 |n::r,xs,h=>by
  cases h with
  |cons h1 h2=>
   cases h1
   rw[RM r _ h2]<;>rfl
section
variable{P:Program}{w:World}{K:PySem.W.Frag}{H:Hp}{h:Heap}{R:PySem.W.WRecords}{cl:Str→Option Addr}
theorem ZS{a:Addr}{xs:List V}(hok:HOk P w H h)(KX:K.In h)(q:SqL K H a xs): ∃(its:List Value) (o:Obj) (n:Nat),Vals xs its∧h.get? a=some o∧o.cls= .type "list"∧o.data= .seq its.toArray n:=by
 rcases q with q|⟨o,its,n,e,hc,_,hd,_,hv⟩
 ·obtain⟨_,its,n,hv,e⟩:=(show fP P w H h a (.lst xs) from q.ok hok)
  exact⟨its,_,n,hv,e,rfl,rfl⟩
 ·exact⟨its.toList,o,n,hv,KX _ _ e,hc,by simp[hd]⟩
theorem ZV{a:Addr}{xs:List V}(hok:HOk P w H h)(KX:K.In h)(q:SqT K H a xs): ∃(its:List Value) (o:Obj) (n:Nat),Vals xs its∧h.get? a=some o∧o.cls= .type "tuple"∧o.data= .seq its.toArray n:=by
 rcases q with q|⟨o,its,n,e,hc,hd,_,hv⟩
 ·obtain⟨_,its,hv,o,e,hc,n,hd⟩:=(show fP P w H h a (.tup xs) from q.ok hok)
  exact⟨its,o,n,hv,e,hc,hd⟩
 ·exact⟨its.toList,o,n,hv,KX _ _ e,hc,by simp[hd]⟩
mutual
theorem Dw.reads(hok:HOk P w H h)(KX:K.In h): ∀(d:WData) (v:V) (u:Value),Dw K H v d→RelV v u→∃as,ReadsW R cl h u d as
 | .none,_,_,x,r=>by
  cases x
  cases r
  exact⟨_,ReadsW.none⟩
 | .bool b,_,_,x,r=>by
  cases x
  cases r
  exact⟨_,ReadsW.bool b⟩
 | .int i,_,_,x,r=>by
  cases x
  obtain⟨t,rfl⟩:=r
  exact⟨_,ReadsW.int i t⟩
 | .str s,_,_,x,r=>by
  cases x
  obtain⟨t,rfl⟩:=r
  exact⟨_,ReadsW.str s t⟩
 | .bytes b,_,_,x,r=>by
  cases x
  obtain⟨t,rfl⟩:=r
  exact⟨_,ReadsW.bytes _ t⟩
 | .list ds,_,_,x,r=>by
  cases x with
  |lst hs ha=>
   cases r
   obtain⟨its,o,n,rv,ho,hc,hd⟩:=ZS hok KX hs
   obtain⟨as,hr⟩:=Dw.readsAll hok KX ds _ its ha rv
   exact⟨_,ReadsW.list ho hc hd hr⟩
 | .tuple ds,_,_,x,r=>by
  cases x with
  |tup hs ha=>
   cases r
   obtain⟨its,o,n,rv,ho,hc,hd⟩:=ZV hok KX hs
   obtain⟨as,hr⟩:=Dw.readsAll hok KX ds _ its ha rv
   exact⟨_,ReadsW.tuple ho hc hd hr⟩
 | .float _,_,_,x,_=>by cases x
 | .dict _,_,_,x,_=>by cases x
 | .bytearray _,_,_,x,_=>by cases x
 | .set _,_,_,x,_=>by cases x
 | .frozenset _,_,_,x,_=>by cases x
 | .obj _ _,_,_,x,_=>by cases x
theorem Dw.readsAll(hok:HOk P w H h)(KX:K.In h): ∀(ds:List WData) (vs:List V) (us:List Value),oh K H vs ds→Vals vs us→∃as,ReadsAllW R cl h us ds as
 |[],_,_,x,r=>by
  cases x
  cases r
  exact⟨_,ReadsAllW.nil⟩
 |d::ds,_,_,x,r=>by
  cases x with
  |cons h1 h2=>
   cases r with
   |cons r1 r2=>
    obtain⟨as,q1⟩:=Dw.reads hok KX d _ _ h1 r1
    obtain⟨bs,q2⟩:=Dw.readsAll hok KX ds _ _ h2 r2
    exact⟨_,ReadsAllW.cons q1 q2⟩
end
end
mutual
def plW:WData→Bool
 | .none=>true
 | .bool _=>true
 | .int _=>true
 | .str _=>true
 | .bytes _=>true
 | .list xs=>BW xs
 | .tuple xs=>BW xs
 |_=>false
def BW:List WData→Bool
 |[]=>true
 |x::r=>plW x&&BW r
end
theorem Nf{α:Type}{f:α→WData}(h: ∀a,plW (f a)=true): ∀l:List α,BW (l.map f)=true
 |[]=>rfl
 |x::r=>by
  show(plW (f x)&&BW (r.map f))=true
  rw[h x,Nf h r]<;>rfl
theorem um: ∀(c:Codec) (a:c.denote),plW (c.enc a)=true
 | .unit,_=>rfl
 | .bool,_=>rfl
 | .int _ _,_=>rfl
 | .nat _ _,_=>rfl
 | .u8,_=>rfl
 | .bytes _ _,_=>rfl
 | .text _ _ _ _,_=>rfl
 | .list _ _ c,a=>Nf (fun x=>um c x) a
 | .pair c d,a=>by
  show(plW (c.enc a.1)&&(plW (d.enc a.2)&&true))=true
  rw[um c a.1,um d a.2]<;>rfl
 | .triple c d e,a=>by
  show(plW (c.enc a.1)&&(plW (d.enc a.2.1)&&(plW (e.enc a.2.2)&&true)))=true
  rw[um c a.1,um d a.2.1,um e a.2.2]<;>rfl
 | .option c,none=>rfl
 | .option c,some x=>um c x
theorem Im: ∀(cs:List Codec) (a:Codec.denoteAll cs),BW (Codec.encAll cs a)=true
 |[],_=>rfl
 |c::cs,a=>by
  show(plW (c.enc a.1)&&BW (Codec.encAll cs a.2))=true
  rw[um c a.1,Im cs a.2]<;>rfl
theorem wM: ∀{xs:List WData} {d:WData},d∈xs→d.weight≤WData.weightAll xs
 |[],d,h=>absurd h (by simp)
 |x::r,d,h=>by
  show d.weight≤x.weight+1+WData.weightAll r
  rcases List.mem_cons.mp h with e|m
  ·rw[e]
   omega
  ·have z:=wM m
   omega
def toV:Value→V
 | .none=> .non
 | .bool b=> .bl b
 | .int i _=> .int i
 | .str x _=> .str x
 | .bytes b _=> .byt b
 | .ref a=> .ref a
 |_=> .non
def OkU(A:List Addr):Value→Prop
 | .none=>True
 | .bool _=>True
 | .int _ _=>True
 | .str _ _=>True
 | .bytes _ _=>True
 | .ref a=>a∈A
 |_=>False
theorem OkU.mono{A B:List Addr}(h: ∀a∈A,a∈B): ∀{u:Value},OkU A u→OkU B u:=fun{u} x=>by
 cases u with
 |ref a=>exact h a x
 |none=>trivial
 |bool b=>trivial
 |int i t=>trivial
 |str s t=>trivial
 |bytes b t=>trivial
 |_=>exact False.elim x
theorem VJ{A:List Addr}{u:Value}(x:OkU A u):RelV (toV u) u:=by
 cases u with
 |ref a=>rfl
 |none=>rfl
 |bool b=>rfl
 |int i t=>exact⟨t,rfl⟩
 |str s t=>exact⟨t,rfl⟩
 |bytes b t=>exact⟨t,rfl⟩
 |_=>exact False.elim x
theorem qd{A:List Addr}: ∀{vs:List Value},(∀u∈vs,OkU A u)→Vals (vs.map toV) vs
 |[],_=> .nil
 |u::r,h=> .cons (VJ (h u (List.mem_cons_self ..))) (qd fun x hx=>h x (List.mem_cons_of_mem _ hx))
def sX(h:Heap)(A:List Addr)(a:Addr):Prop:=∃vs:List Value,vs.length≤sizeLine∧(∀u∈vs,OkU A u)∧
 (h.get? a=some {cls:= .type "list",data:= .seq vs.toArray}∨h.get? a=some {cls:= .type "tuple",data:= .seq vs.toArray})
theorem sX.mono{h:Heap}{A B:List Addr}{a:Addr}(k: ∀a∈A,a∈B)(x:sX h A a):sX h B a:=by
 obtain⟨vs,h1,h2,h3⟩:=x
 exact⟨vs,h1,fun u hu=>(h2 u hu).mono k,h3⟩
theorem ou{P:Params}{h:Heap}: ∀{vs:List Value} {ds:List WData},WellAll P h vs ds→vs.length=ds.length
 |_,_,.nil=>rfl
 |_,_,.cons _ b=>by
  show _+1=_+1
  rw[ou b]
theorem Io{P:Params}{h:Heap}{v:Value}{ds:List WData}(x:Well P h v (.list ds)): ∃(a:Addr) (vs:List Value),v= .ref a∧h.get? a=some {cls:= .type "list",data:= .seq vs.toArray}∧WellAll P h vs ds:=by
 cases x with
 |list ho hall=>exact⟨_,_,rfl,ho,hall⟩
theorem DK{P:Params}{h:Heap}{v:Value}{ds:List WData}(x:Well P h v (.tuple ds)): ∃(a:Addr) (vs:List Value),v= .ref a∧h.get? a=some {cls:= .type "tuple",data:= .seq vs.toArray}∧WellAll P h vs ds:=by
 cases x with
 |tuple ho hall=>exact⟨_,_,rfl,ho,hall⟩
theorem Ip{P:Params}{h:Heap}{us:List Value}{d:WData}{ds:List WData}(x:WellAll P h us (d::ds)): ∃(v:Value) (vs:List Value),us=v::vs∧Well P h v d∧WellAll P h vs ds:=by
 cases x with
 |cons a b=>exact⟨_,_,rfl,a,b⟩
theorem RN{n:Nat}(h:n≤1048576):n≤sizeLine:=Nat.le_trans h (by decide)
section
variable{P:Params}{h:Heap}
mutual
theorem VL: ∀(d:WData) (v:Value),Well P h v d→plW d=true→d.weight≤1048576→∃A:List Addr,OkU A v∧∀a∈A,sX h A a
 | .none,_,x,_,_=>by
  cases x
  exact⟨[],trivial,fun a m=>absurd m (by simp)⟩
 | .bool b,_,x,_,_=>by
  cases x
  exact⟨[],trivial,fun a m=>absurd m (by simp)⟩
 | .int i,_,x,_,_=>by
  cases x
  exact⟨[],trivial,fun a m=>absurd m (by simp)⟩
 | .str s,_,x,_,_=>by
  cases x
  exact⟨[],trivial,fun a m=>absurd m (by simp)⟩
 | .bytes b,_,x,_,_=>by
  cases x
  exact⟨[],trivial,fun a m=>absurd m (by simp)⟩
 | .list ds,_,x,p,z=>by
  obtain⟨a,vs,rfl,ho,hall⟩:=Io x
  have z2:WData.weightAll ds≤1048576:=z
  obtain⟨A,h1,h2⟩:=yr ds _ hall p fun d hd=>Nat.le_trans (wM hd) z2
  have k: ∀b∈A,b∈a::A:=fun b hb=>List.mem_cons_of_mem _ hb
  refine⟨a::A,List.mem_cons_self ..,fun b hb=>?_⟩
  rcases List.mem_cons.mp hb with e|m
  ·rw[e]
   exact⟨vs,RN (by rw[ou hall];exact Nat.le_trans (PySem.W.length_le_weightAllW ds) z2),fun u hu=>(h1 u hu).mono k,.inl ho⟩
  ·exact(h2 b m).mono k
 | .tuple ds,_,x,p,z=>by
  obtain⟨a,vs,rfl,ho,hall⟩:=DK x
  have z2:WData.weightAll ds≤1048576:=z
  obtain⟨A,h1,h2⟩:=yr ds _ hall p fun d hd=>Nat.le_trans (wM hd) z2
  have k: ∀b∈A,b∈a::A:=fun b hb=>List.mem_cons_of_mem _ hb
  refine⟨a::A,List.mem_cons_self ..,fun b hb=>?_⟩
  rcases List.mem_cons.mp hb with e|m
  ·rw[e]
   exact⟨vs,RN (by rw[ou hall];exact Nat.le_trans (PySem.W.length_le_weightAllW ds) z2),fun u hu=>(h1 u hu).mono k,.inr ho⟩
  ·exact(h2 b m).mono k
 | .float _,_,_,p,_=>Bool.noConfusion (show false=true from p)
 | .dict _,_,_,p,_=>Bool.noConfusion (show false=true from p)
 | .bytearray _,_,_,p,_=>Bool.noConfusion (show false=true from p)
 | .set _,_,_,p,_=>Bool.noConfusion (show false=true from p)
 | .frozenset _,_,_,p,_=>Bool.noConfusion (show false=true from p)
 | .obj _ _,_,_,p,_=>Bool.noConfusion (show false=true from p)
theorem yr: ∀(ds:List WData) (vs:List Value),WellAll P h vs ds→BW ds=true→(∀d∈ds,d.weight≤1048576)→∃A:List Addr,(∀u∈vs,OkU A u)∧∀a∈A,sX h A a
 |[],_,x,_,_=>by
  cases x
  exact⟨[],fun u m=>absurd m (by simp),fun a m=>absurd m (by simp)⟩
 |d::ds,_,x,p,z=>by
  obtain⟨v,vs,rfl,x1,x2⟩:=Ip x
  have q:plW d=true∧BW ds=true:=Bool.and_eq_true_iff.mp p
  obtain⟨A,a1,a2⟩:=VL d v x1 q.1 (z d (List.mem_cons_self ..))
  obtain⟨B,b1,b2⟩:=yr ds vs x2 q.2 fun e he=>z e (List.mem_cons_of_mem _ he)
  have kA: ∀b∈A,b∈A++B:=fun b hb=>List.mem_append.mpr (.inl hb)
  have kB: ∀b∈B,b∈A++B:=fun b hb=>List.mem_append.mpr (.inr hb)
  refine⟨A++B,fun u hu=>?_,fun b hb=>?_⟩
  ·rcases List.mem_cons.mp hu with e|m
   ·rw[e]
    exact a1.mono kA
   ·exact(b1 u m).mono kB
  ·rcases List.mem_append.mp hb with m|m
   ·exact(a2 b m).mono kA
   ·exact(b2 b m).mono kB
end
end
def XJ(o:Obj):Option HO:=match o.data with
 | .seq vs _=>if(o.cls==Value.type "list")=true then some (.frz o (.lst (vs.toList.map toV))) else some (.frz o (.tup (vs.toList.map toV)))
 |_=>none
def qe(K:PySem.W.Frag)(h:Heap)(A:List Addr):Hp:=fun b=>if b∈A then(if(K.lookup b).isNone=true then(h.get? b).bind XJ else none) else none
def YT(H:Hp):Prop:=∀b,H b=none∨∃o u,H b=some (.frz o u)
theorem Ng(vs:List Value):XJ {cls:= .type "list",data:= .seq vs.toArray}=some (.frz {cls:= .type "list",data:= .seq vs.toArray} (.lst (vs.map toV))):=by
 show(if(Value.type "list"==Value.type "list")=true then some (HO.frz {cls:= .type "list",data:= .seq vs.toArray} (.lst (vs.toArray.toList.map toV))) else some (HO.frz {cls:= .type "list",data:= .seq vs.toArray} (.tup (vs.toArray.toList.map toV))))=_
 rw[if_pos (beq_self_eq_true _)]
theorem Nh(vs:List Value):XJ {cls:= .type "tuple",data:= .seq vs.toArray}=some (.frz {cls:= .type "tuple",data:= .seq vs.toArray} (.tup (vs.map toV))):=by
 show(if(Value.type "tuple"==Value.type "list")=true then some (HO.frz {cls:= .type "tuple",data:= .seq vs.toArray} (.lst (vs.toArray.toList.map toV))) else some (HO.frz {cls:= .type "tuple",data:= .seq vs.toArray} (.tup (vs.toArray.toList.map toV))))=_
 rw[if_neg (by decide)]
section
variable{P:Program}{w:World}{K:PySem.W.Frag}{h:Heap}{A:List Addr}
theorem Cw{b:Addr}{o:Obj}(hb:b∈A)(hk:K.lookup b=none)(e:h.get? b=some o):qe K h A b=XJ o:=by
 unfold qe
 rw[if_pos hb,hk,if_pos (show(none:Option Obj).isNone=true from rfl),e]<;>rfl
theorem XM{b:Addr}{u:HO}(q:qe K h A b=some u):b∈A∧K.lookup b=none:=by
 unfold qe at q
 by_cases hb:b∈A
 ·rw[if_pos hb] at q
  cases hk:K.lookup b with
  |none=>exact⟨hb,rfl⟩
  |some o=>
   rw[hk,if_neg (by simp)] at q
   cases q
 ·rw[if_neg hb] at q
  cases q
theorem Cy(ar: ∀a∈A,sX h A a){b:Addr}{u:HO}(q:qe K h A b=some u):K.lookup b=none∧∃vs:List Value,vs.length≤sizeLine∧(∀u∈vs,OkU A u)∧
  ((h.get? b=some {cls:= .type "list",data:= .seq vs.toArray}∧u= .frz {cls:= .type "list",data:= .seq vs.toArray} (.lst (vs.map toV)))∨
   (h.get? b=some {cls:= .type "tuple",data:= .seq vs.toArray}∧u= .frz {cls:= .type "tuple",data:= .seq vs.toArray} (.tup (vs.map toV)))):=by
 obtain⟨hb,hk⟩:=XM q
 obtain⟨vs,h1,h2,h3⟩:=ar b hb
 refine⟨hk,vs,h1,h2,?_⟩
 rcases h3 with e|e
 ·rw[Cw hb hk e,Ng] at q
  exact .inl ⟨e,(Option.some.inj q).symm⟩
 ·rw[Cw hb hk e,Nh] at q
  exact .inr ⟨e,(Option.some.inj q).symm⟩
theorem Tv(ar: ∀a∈A,sX h A a):YT (qe K h A):=fun b=>by
 cases q:qe K h A b with
 |none=>exact .inl rfl
 |some u=>
  obtain⟨_,vs,_,_,⟨_,e⟩|⟨_,e⟩⟩:=Cy ar q
  ·exact .inr ⟨_,_,by rw[e]⟩
  ·exact .inr ⟨_,_,by rw[e]⟩
theorem XQ(ar: ∀a∈A,sX h A a):HOk P w (qe K h A) h:=fun b u q=>by
 obtain⟨_,vs,h1,h2,⟨e,rfl⟩|⟨e,rfl⟩⟩:=Cy ar q
 ·exact⟨e,by rw[List.length_map];exact h1,vs,_,qd h2,e⟩
 ·exact⟨e,by rw[List.length_map];exact h1,vs,qd h2,_,e,rfl,_,rfl⟩
theorem Cz{c c':Value}{vs us:List Value}(e:(some {cls:=c,data:= .seq vs.toArray}:Option Obj)=some {cls:=c',data:= .seq us.toArray}):c=c'∧vs=us:=by
 have e1:=Option.some.inj e
 have e2:c=c':=congrArg Obj.cls e1
 have e3:Data.seq vs.toArray=Data.seq us.toArray:=congrArg Obj.data e1
 injection e3 with e4
 refine⟨e2,?_⟩
 have e5:=congrArg Array.toList e4
 simpa using e5
theorem argL(KX:K.In h)(ar: ∀a∈A,sX h A a){a:Addr}{vs:List Value}(ha:a∈A)(e:h.get? a=some {cls:= .type "list",data:= .seq vs.toArray}):(∀u∈vs,OkU A u)∧SqL K (qe K h A) a (vs.map toV):=by
 obtain⟨us,h1,h2,h3⟩:=ar a ha
 have hu:us=vs:=by
  rcases h3 with q|q
  ·rw[e] at q
   exact(Cz q).2.symm
  ·rw[e] at q
   exact absurd (Value.type.inj (Cz q).1) (by decide)
 subst hu
 refine⟨h2,?_⟩
 cases hk:K.lookup a with
 |none=>exact .inl (.inr ⟨_,by rw[Cw ha hk e,Ng]⟩)
 |some o=>
  have e2:=KX a o hk
  rw[e] at e2
  obtain rfl:=Option.some.inj e2
  exact .inr ⟨_,us.toArray,_,hk,rfl,rfl,rfl,by rw[List.size_toArray];exact h1,by simpa using qd h2⟩
theorem argT(KX:K.In h)(ar: ∀a∈A,sX h A a){a:Addr}{vs:List Value}(ha:a∈A)(e:h.get? a=some {cls:= .type "tuple",data:= .seq vs.toArray}):(∀u∈vs,OkU A u)∧SqT K (qe K h A) a (vs.map toV):=by
 obtain⟨us,h1,h2,h3⟩:=ar a ha
 have hu:us=vs:=by
  rcases h3 with q|q
  ·rw[e] at q
   exact absurd (Value.type.inj (Cz q).1) (by decide)
  ·rw[e] at q
   exact(Cz q).2.symm
 subst hu
 refine⟨h2,?_⟩
 cases hk:K.lookup a with
 |none=>exact .inl (.inr ⟨_,by rw[Cw ha hk e,Nh]⟩)
 |some o=>
  have e2:=KX a o hk
  rw[e] at e2
  obtain rfl:=Option.some.inj e2
  exact .inr ⟨_,us.toArray,_,hk,rfl,rfl,by rw[List.size_toArray];exact h1,by simpa using qd h2⟩
mutual
theorem ZW{Pm:Params}(KX:K.In h)(ar: ∀a∈A,sX h A a): ∀(d:WData) (v:Value),Well Pm h v d→plW d=true→OkU A v→Dw K (qe K h A) (toV v) d
 | .none,_,x,_,_=>by
  cases x
  exact .non
 | .bool b,_,x,_,_=>by
  cases x
  exact .bl b
 | .int i,_,x,_,_=>by
  cases x
  exact .int i
 | .str s,_,x,_,_=>by
  cases x
  exact .str s
 | .bytes b,_,x,_,_=>by
  cases x
  have z:=Dw.byt (K:=K) (H:=qe K h A) b.toArray
  exact z
 | .list ds,_,x,p,hu=>by
  obtain⟨a,vs,rfl,ho,hall⟩:=Io x
  obtain⟨h2,hs⟩:=argL KX ar hu ho
  exact .lst hs (JM KX ar ds _ hall p h2)
 | .tuple ds,_,x,p,hu=>by
  obtain⟨a,vs,rfl,ho,hall⟩:=DK x
  obtain⟨h2,hs⟩:=argT KX ar hu ho
  exact .tup hs (JM KX ar ds _ hall p h2)
 | .float _,_,_,p,_=>Bool.noConfusion (show false=true from p)
 | .dict _,_,_,p,_=>Bool.noConfusion (show false=true from p)
 | .bytearray _,_,_,p,_=>Bool.noConfusion (show false=true from p)
 | .set _,_,_,p,_=>Bool.noConfusion (show false=true from p)
 | .frozenset _,_,_,p,_=>Bool.noConfusion (show false=true from p)
 | .obj _ _,_,_,p,_=>Bool.noConfusion (show false=true from p)
theorem JM{Pm:Params}(KX:K.In h)(ar: ∀a∈A,sX h A a): ∀(ds:List WData) (vs:List Value),WellAll Pm h vs ds→BW ds=true→(∀u∈vs,OkU A u)→oh K (qe K h A) (vs.map toV) ds
 |[],_,x,_,_=>by
  cases x
  exact .nil
 |d::ds,_,x,p,hu=>by
  obtain⟨v,vs,rfl,x1,x2⟩:=Ip x
  have q:plW d=true∧BW ds=true:=Bool.and_eq_true_iff.mp p
  exact .cons (ZW KX ar d v x1 q.1 (hu _ (List.mem_cons_self ..))) (JM KX ar ds vs x2 q.2 fun u m=>hu u (List.mem_cons_of_mem _ m))
end
end
theorem DN{ds:List WData}(h:WData.layableAll ds=true): ∀d∈ds,d.weight≤1048576:=fun d hd=>
 (PySem.W.layableW_iff.mp (List.all_eq_true.mp h d hd)).2.2
theorem DP: ∀(cs:List Codec) (a:Codec.denoteAll cs),(Codec.encAll cs a).length=cs.length
 |[],_=>rfl
 |c::cs,a=>by
  show(Codec.encAll cs a.2).length+1=cs.length+1
  rw[DP cs a.2]
end L2
end
namespace L2
open PySem PySem.Spec PyProof.Rows
section
variable{X:Cx}{pos p apos:Pos}{x m:Str}{e o:Expr}{es:List Expr}{t:TA}{ta:TE}
theorem ZX:PIp X .Mult (fun x y H Q=>∃i j,x= .int i∧y= .int j∧Xl i j∧Q (.int (i * j)) H):=by
 intro pins s σ H x y v u Q I r1 r2 h
 obtain⟨i,j,e1,e2,hc,q⟩:=h
 subst e1;subst e2
 obtain⟨t,rfl⟩:=r1
 obtain⟨t',rfl⟩:=r2
 exact imul_int ⟨.int _,H,I.tok _,⟨_,rfl⟩,q⟩ hc.ok
def GI(mg:Str→Option Value)(x:Str)(i:Int):Prop:=∃t,mg x=some (.int i t)
theorem bW{i:Int}(h:GI X.mg x i)(hg:Gl X x:=by rfl)(hd:(x==("__debug__":Str))=false:=by decide):PE X (.Name x pos) (tC (.int i)):=by
 obtain⟨t,h⟩:=h
 exact Rq hg h ⟨t,rfl⟩ hd
def GT(K:PySem.W.Frag)(mg:Str→Option Value)(x:Str)(xs:List V):Prop:=∃a,mg x=some (.ref a)∧∀H,SqT K H a xs
def tGT(K:PySem.W.Frag)(xs:List V):TE:=fun _ H Q=>∀a,(∀H',SqT K H' a xs)→Q (.ref a) H
theorem wu{xs:List V}(h:GT X.K X.mg x xs)(hg:Gl X x:=by rfl)(hd:(x==("__debug__":Str))=false:=by decide):PE X (.Name x pos) (tGT X.K xs):=by
 obtain⟨a,h,hs⟩:=h
 intro pins s σ H Q I hq
 exact Rq (v:= .ref a) hg h rfl hd pins s σ H Q I (hq a hs)
theorem GT.of{K:PySem.W.Frag}{mg:Str→Option Value}{a:Addr}{xs:List V}{ob:Obj}{its:Array Value}{n:Nat}(h:mg x=some (.ref a))(l:K.lookup a=some ob)(c:ob.cls= .type "tuple")(d:ob.data= .seq its n)(z:its.size≤sizeLine)(r:Vals xs its.toList):GT K mg x xs:=
 ⟨a,h,fun _=> .inr ⟨ob,its,n,l,c,d,z,r⟩⟩
end
section
variable{P:Program}{w:World}{K:PySem.W.Frag}{mg:Str→Option Value}{base:Heap}
def GF(P:Program)(w:World)(K:PySem.W.Frag)(mg:Str→Option Value)(base:Heap)(x:Str)(k:Nat)(ps:List Str)(sp:Sp):Prop:=
 ∃f fd,bJ P w K mg base CX0 k f fd ps sp∧Binds K fd ps []∧mg x=some (.ref f)∧PySem.W.keepIn K (.ref f)=true
def GM(P:Program)(w:World)(K:PySem.W.Frag)(mg:Str→Option Value)(base:Heap)(C:Addr)(m:Str)(k:Nat)(ps:List Str)(sp:Sp):Prop:=
 ∃f fd,bJ P w K mg base CX0 k f fd ps sp∧Binds K fd ps []∧Cls K C∧Meth K C m f
def GC(P:Program)(w:World)(K:PySem.W.Frag)(mg:Str→Option Value)(base:Heap)(x:Str)(C:Addr)(k:Nat)(ps:List Str)(sp:Sp):Prop:=
 ∃f fd,bJ P w K mg base CX0 k f fd ps sp∧Binds K fd ps []∧Mk K C f∧mg x=some (.ref C)
end
section
variable{X:Cx}{pos p apos:Pos}{x m:Str}{e o:Expr}{es:List Expr}{t:TA}{ta:TE}{k:Nat}{ps:List Str}{sp:Sp}{C:Addr}
theorem aQ(G:GF X.prog X.w X.K X.mg X.base x k ps sp)(hr:gw k X.A)(ha:PA X (e::es) t)(hg:Gl X x:=by rfl)
  (hdb:(x==("__debug__":Str))=false:=by decide) (he:starEach (e::es) X.env=(false,eval e X.env)::starEach es X.env:=by rfl) (hpl:(backTo pos (starEach es X.env)).any (·.1)=false:=by rfl):
  PE X (.Call (.Name x p) (e::es) [] pos) (HX sp [] E0 t):=by
 obtain⟨f,fd,F,b,hm,hk⟩:=G
 exact Xr F hr hg hm hk b .nil Il ha hdb he hpl
theorem jc{pl:Sem Bool}(he:PE X o ta)(G:GM X.prog X.w X.K X.mg X.base C m k ps sp)(hr:gw k X.A)(ha:PA X (e::es) t)
  (hst:starEach (e::es) X.env=(false,eval e X.env)::starEach es X.env:=by rfl) (hpl:(backTo pos (starEach es X.env)).any (·.1)=false:=by rfl)
  (ht:eval (.Call (.Attribute o m apos) (e::es) [] pos) X.env=(do
   let ov←eval o X.env
   standAt apos.atName
   let (f,first)←holding [ov] (getMethod ov m pl)
   callWith pos f first (backTo pos (starEach (e::es) X.env)) (backToKw pos (keywordEach [] X.env))):=by rfl):
  PE X (.Call (.Attribute o m apos) (e::es) [] pos) (yc C m sp [] E0 ta t):=by
 obtain⟨f,fd,F,b,c,hm⟩:=G
 exact Xu he c hm F hr b .nil Il ha hst hpl ht
theorem bf{pl:Sem Bool}(he:PE X o ta)(G:GM X.prog X.w X.K X.mg X.base C m k ps sp)(hr:gw k X.A)
  (ht:eval (.Call (.Attribute o m apos) [] [] pos) X.env=(do
   let ov←eval o X.env
   standAt apos.atName
   let (f,first)←holding [ov] (getMethod ov m pl)
   callWith pos f first (backTo pos (starEach [] X.env)) (backToKw pos (keywordEach [] X.env))):=by rfl):
  PE X (.Call (.Attribute o m apos) [] [] pos) (yc C m sp [] E0 ta lC):=by
 obtain⟨f,fd,F,b,c,hm⟩:=G
 exact Vp he c hm F hr b .nil Il ht
theorem jd(G:GC X.prog X.w X.K X.mg X.base x C k ps sp)(hr:gw (k+1) X.A)(ha:PA X (e::es) t)(hg:Gl X x:=by rfl)
  (hdb:(x==("__debug__":Str))=false:=by decide) (he:starEach (e::es) X.env=(false,eval e X.env)::starEach es X.env:=by rfl) (hpl:(backTo pos (starEach es X.env)).any (·.1)=false:=by rfl):
  PE X (.Call (.Name x p) (e::es) [] pos) (Rv C sp [] E0 t):=by
 obtain⟨f,fd,F,b,M,hm⟩:=G
 exact Xv M F hr hg hm b .nil Il ha hdb he hpl
theorem Tw(G:GC X.prog X.w X.K X.mg X.base x C k ps sp)(hr:gw (k+1) X.A)(hg:Gl X x:=by rfl)(hdb:(x==("__debug__":Str))=false:=by decide):
  PE X (.Call (.Name x p) [] [] pos) (Rv C sp [] E0 lC):=by
 obtain⟨f,fd,F,b,M,hm⟩:=G
 exact Vq M F hr hg hm b .nil Il hdb
def FV(X:Cx)(k:Nat)(v:V)(ps:List Str)(sp:Sp):Prop:=
 ∃f fd,v= .ref f∧bJ X.prog X.w X.K X.mg X.base CX0 k f fd ps sp∧Binds X.K fd ps []∧PySem.W.keepIn X.K (.ref f)=true
def Qa(X:Cx)(k:Nat)(tf:TE)(t:TA):TE:=fun σ H Q=>tf σ H fun v H1=>∃ps sp,FV X k v ps sp∧t σ H1 fun vs H2=>sp vs H2 Q E0
theorem DQ{fe:Expr}{tf:TE}(hf:PE X fe tf)(hr:gw k X.A)(ha:PA X (e::es) t)
  (he:starEach (e::es) X.env=(false,eval e X.env)::starEach es X.env:=by rfl) (hpl:(backTo pos (starEach es X.env)).any (·.1)=false:=by rfl)
  (hc:eval (.Call fe (e::es) [] pos) X.env=(do callWith pos (←eval fe X.env) [] (backTo pos (starEach (e::es) X.env)) (backToKw pos (keywordEach [] X.env))):=by rfl):
  PE X (.Call fe (e::es) [] pos) (Qa X k tf t):=by
 intro pins s σ H Q I h
 refine Call_ (thn (hf pins s σ H _ I h) fun u s1 ⟨v,H1,I1,rv,ps,sp,⟨f,fd,ev,F,b,hk⟩,q⟩=>?_) hc
 subst ev
 obtain rfl:u=Value.ref f:=rv
 refine PySem.W.callWith_K (h₀:=X.base) I.ok.mod.kin hk (thn (ha pos pins s1 σ H1 _ I1 q) fun us s2 ⟨vs,H2,I2,r,q2⟩=>⟨I2.kIn,?_⟩) he hpl
 exact Jy F hr b .nil Il I2 r (by rw[List.append_nil];exact q2)
end
def aL(l:List Addr)(H H':Hp):Prop:=∀b o,H b=some o→b∉l→H' b=some o
theorem aL.same{l:List Addr}{H H':Hp}(h:Same H H'):aL l H H':=fun b o e _=>h b o e
theorem aL.trans{l:List Addr}{H H1 H2:Hp}(a:aL l H H1)(b:aL l H1 H2):aL l H H2:=fun c o h n=>b c o (a c o h n) n
theorem aL.mono{l l':List Addr}{H H':Hp}(a:aL l H H')(h: ∀b∈l,b∈l'):aL l' H H':=fun c o e n=>a c o e fun q=>n (h c q)
theorem aL.upd{l:List Addr}{H:Hp}{a:Addr}{o:HO}(h:a∈l):aL l H (upd H a o):=fun b u e n=>by
 rw[aJ (fun q=>n (by rw[q];exact h))]
 exact e
theorem Same.new{H:Hp}{p:Addr}{o:HO}(h:H p=Option.none):Same H (upd H p o):=fun b u e=>by
 rw[aJ (aG e h)]
 exact e
theorem SqL.keep{K:PySem.W.Frag}{H H':Hp}{l:List Addr}{a:Addr}{xs:List V}(h:SqL K H a xs)(k:aL l H H')(n: ∀b∈l,∀u,H b=some u→u≠ .lst xs∧∀o,u≠ .frz o (.lst xs)):SqL K H' a xs:=by
 rcases h with(h|⟨o,h⟩)|h
 ·exact .inl (.inl (k a _ h fun q=>(n a q _ h).1 rfl))
 ·exact .inl (.inr ⟨o,k a _ h fun q=>(n a q _ h).2 o rfl⟩)
 ·exact .inr h
theorem SqL.RP{K:PySem.W.Frag}{H H':Hp}{b C dx:Addr}{fs:List (Str×V)}{a:Addr}{xs:List V}(h:SqL K H a xs)(k:aL [b] H H')(n:H b=some (.ins C dx fs)):SqL K H' a xs:=
 h.keep k fun c hc u e=>by
  have q:c=b:=by simpa using hc
  subst q
  rw[n] at e
  cases e
  exact⟨fun q=>(nomatch q),fun o q=>(nomatch q)⟩
theorem jH{σ:St}{H:Hp}{A B:Hp→Prop}(h:A H):tYes σ H fun b H3=>if b=true then A H3 else B H3:=by
 show(if true=true then A H else B H)
 rw[if_pos rfl]
 exact h
theorem bO{α β:Type}{f:α→β}{l:List α}{i:Nat}{y:β}(h:(l.map f)[i]?=some y): ∃z,l[i]?=some z∧y=f z:=by
 rw[List.getElem?_map] at h
 cases e:l[i]? with
 |none=>rw[e] at h;cases h
 |some z=>rw[e] at h;exact⟨z,rfl,(Option.some.inj h).symm⟩
theorem DR{K:PySem.W.Frag}{a:Addr}{ns:List Int}{g:TG}{tb:TS}{D:Ends}{σ:St}{H:Hp}(Pv:Nat→St→Hp→Prop)(hq:SqL K H a (ns.map V.int))(h0:Pv 0 σ H)
  (hs: ∀i z σ H',ns[i]?=some z→Same H H'→Pv i σ H'→g (.int z) σ H' fun σ2 H2=>tb {D with nx:=fun σ' H'=>Same H H'∧Pv (i+1) σ' H',ct:=fun σ' H'=>Same H H'∧Pv (i+1) σ' H',bk:=D.nx} σ2 H2)
  (hd: ∀σ H',Same H H'→Pv ns.length σ H'→D.nx σ H'):
  ∃W:Nat→Nat→St→Hp→Prop,(∃m,W 0 m σ H)∧∀i m σ H,W i m σ H→
   ((Itl K a).stop i H∧D.nx σ H)∨((Itl K a).go i H∧∃N:St→Hp→Prop,(∀σ' H',N σ' H'→∃m',m'<m∧W (i+1) m' σ' H')∧∀x H',(Itl K a).yld i H x H'→g x σ H' fun σ2 H2=>tb {D with nx:=N,ct:=N,bk:=D.nx} σ2 H2):=
 gY (K:=K) (a:=a) (xs:=ns.map V.int) (fun i σ H'=>Same H H'∧Pv i σ H') ⟨Same.refl H,h0⟩ (fun i σ H' _ p=>p.1.seq hq)
  (fun i x σ H' hx p=>by
   obtain⟨z,hz,rfl⟩:=bO hx
   exact hs i z σ H' hz p.1 p.2)
  (fun σ H' p=>hd σ H' p.1 (by rw[List.length_map] at p;exact p.2))
theorem XR{K:PySem.W.Frag}{a b:Addr}{xs ys:List V}{g:TG}{tb:TS}{D:Ends}{σ:St}{H:Hp}(Pv:Nat→St→Hp→Prop)(h0:Pv 0 σ H)(hl: ∀i σ H,Pv i σ H→SqL K H a xs∧SqL K H b ys)
  (hs: ∀i x y T σ H,xs[i]?=some x→ys[i]?=some y→H T=none→Pv i σ H→g (.ref T) σ (upd H T (.tup [x,y])) fun σ2 H2=>tb {D with nx:=Pv (i+1),ct:=Pv (i+1),bk:=D.nx} σ2 H2)
  (hd: ∀σ H,Pv (min xs.length ys.length) σ H→D.nx σ H):
  ∃W:Nat→Nat→St→Hp→Prop,(∃m,W 0 m σ H)∧∀i m σ H,W i m σ H→
   ((Itz K a b).stop i H∧D.nx σ H)∨((Itz K a b).go i H∧∃N:St→Hp→Prop,(∀σ' H',N σ' H'→∃m',m'<m∧W (i+1) m' σ' H')∧∀x H',(Itz K a b).yld i H x H'→g x σ H' fun σ2 H2=>tb {D with nx:=N,ct:=N,bk:=D.nx} σ2 H2):=by
 refine⟨fun i m σ H=>m=min xs.length ys.length - i∧i≤min xs.length ys.length∧Pv i σ H,⟨_,rfl,Nat.zero_le _,h0⟩,?_⟩
 rintro i m σ H ⟨rfl,hi,p⟩
 obtain⟨q1,q2⟩:=hl i σ H p
 by_cases hlt:i<min xs.length ys.length
 ·have h1:i<xs.length:=by omega
  have h2:i<ys.length:=by omega
  refine .inr ⟨⟨xs,ys,xs[i],ys[i],q1,q2,by simp[h1],by simp[h2]⟩,Pv (i+1),fun σ' H' p'=>⟨min xs.length ys.length - (i+1),by omega,rfl,hlt,p'⟩,fun v H' z=>?_⟩
  obtain⟨T,x,y,e1,e2,e3,e4,e5⟩:=z
  subst e1 e3
  exact hs i x y T σ H (e4 xs q1) (e5 ys q2) e2 p
 ·have e:i=min xs.length ys.length:=by omega
  refine .inl ⟨⟨xs,ys,q1,q2,by omega⟩,hd σ H (by rw[←e];exact p)⟩
theorem DW{K:PySem.W.Frag}{a b:Addr}{xs ys:List Int}{g:TG}{tb:TS}{D:Ends}{σ:St}{H:Hp}(Pv:Nat→St→Hp→Prop)(h1:SqL K H a (xs.map V.int))(h2:SqL K H b (ys.map V.int))(h0:Pv 0 σ H)
  (hs: ∀i x y T σ H',xs[i]?=some x→ys[i]?=some y→H' T=some (.tup [.int x,.int y])→Same H H'→(∀H'',H'' T=none→H'=upd H'' T (.tup [.int x,.int y])→Pv i σ H''→g (.ref T) σ H' fun σ2 H2=>tb {D with nx:=fun σ' H'=>Same H H'∧Pv (i+1) σ' H',ct:=fun σ' H'=>Same H H'∧Pv (i+1) σ' H',bk:=D.nx} σ2 H2))
  (hd: ∀σ H',Same H H'→Pv (min xs.length ys.length) σ H'→D.nx σ H'):
  ∃W:Nat→Nat→St→Hp→Prop,(∃m,W 0 m σ H)∧∀i m σ H,W i m σ H→
   ((Itz K a b).stop i H∧D.nx σ H)∨((Itz K a b).go i H∧∃N:St→Hp→Prop,(∀σ' H',N σ' H'→∃m',m'<m∧W (i+1) m' σ' H')∧∀x H',(Itz K a b).yld i H x H'→g x σ H' fun σ2 H2=>tb {D with nx:=N,ct:=N,bk:=D.nx} σ2 H2):=
 XR (K:=K) (xs:=xs.map V.int) (ys:=ys.map V.int) (fun i σ H'=>Same H H'∧Pv i σ H') ⟨Same.refl H,h0⟩ (fun i σ H' p=>⟨p.1.seq h1,p.1.seq h2⟩)
  (fun i x y T σ H' hx hy hT p=>by
   obtain⟨z,hz,rfl⟩:=bO hx
   obtain⟨u,hu,rfl⟩:=bO hy
   exact hs i z u T σ _ hz hu aA (p.1.trans (Same.new hT)) H' hT rfl p.2)
  (fun σ H' p=>hd σ H' p.1 (by rw[List.length_map,List.length_map] at p;exact p.2))
abbrev Cx.lam(X:Cx)(A:Around)(s:Shared)(H:Hp)(NL:List Str)(env:Env):Cx:=
 {X with A:=A.deeper env,N:=NL,s_0:=s,H_0:=H,env:=env,outer:=X.stack,stack:=env::X.stack,ex:=[],fn:=fun _=>false,calm:=true,pn:=[],xe:=fun _ _=>False}
structure VN(X:Cx)(scope:Scope)(cl:List (Str×Addr))(p:Str):Prop where
 kind:scope.kind= .function
 co:scope.isCoroutine=false
 gen:scope.isGenerator=false
 nc: ∀y∈scope.names,y.2≠ .cell
 par:scope.names.lookup p=some .local
 sub: ∀x c,cl.lookup x=some c→X.env.cells.lookup x=some c
 has: ∀x,scope.names.lookup x=some .free→∃c,cl.lookup x=some c
def VP(X:Cx)(scope:Scope)(σ:St)(p:Str)(v:V)(NL:List Str)(σL:St):Prop:=
 σL.length=NL.length∧∀(i:Nat) (x:Str) (v':V),NL[i]?=some x→σL[i]?=some (some v')→
  (scope.names.lookup x=some .local∧x=p∧v'=v)∨(scope.names.lookup x=some .free∧∃j:Nat,X.N[j]?=some x∧σ[j]?=some (some v')∧X.env.scope.names.lookup x=some .cell)
section
variable{X:Cx}{pins:List (Addr×Obj)}{σ:St}{H:Hp}{s:Shared}
theorem Tz(I:Inv X pins σ H s){A:Around}{scope:Scope}{cl:List (Str×Addr)}{qual:Str}{f:Addr}{code:Value}{NL:List Str}{σL:St}{p:Str}{v:V}{u:Value}{h':Heap}{tk:Nat}
  (hA:A.frames=some X.stack) (hh:A.handled=none) (L:VN X scope cl p) (S:VP X scope σ p v NL σL) (r:RelV v u)
  (hns:h'.Ns s.heap.objs.size (fun x=>[(p,u)].reverse.lookup x)) (hsb:Heap.SameBut s.heap.objs.size (s.heap.push {cls:= .type "frame",data:= .dict #[]}) h'):
  Inv (X.lam A s H NL (newEnv scope s.heap.objs.size mainGlobals cl qual (some f) code none builtinsNs)) [] σL H {s with heap:=h',toks:=tk}:=by
 have kp: ∀b o,s.heap.get? b=some o→h'.get? b=some o:=fun b o e=>hsb.extBut b o (Nat.ne_of_lt (Heap.lt_size e)) (Heap.get?_push_of_some _ e)
 have no: ∀{α:Type} {b:α},b∈([]:List α)→False:=fun h=>nomatch h
 refine⟨⟨I.ok.mod,L.kind,rfl,rfl,Nat.le_refl _,fun x y c h1 h2=>I.ok.inj x y c (L.sub x c h1) (L.sub y c h2),fun x hx=>?_,fun x c z=>(Bool.noConfusion (show false=true from z)),fun _=>hh,Around.frames_deeper hA,.inr ⟨rfl,rfl⟩,fun b z=>(no z).elim,I.bs,Nat.le_trans I.ok.bsz I.sz,fun _ _ _ z=>no z,fun b z=>(no z).elim,I.stack,I.Ju⟩,
  rfl,I.bare,Un.kept kp,⟨_,hns,fun i x v' e1 e2 e3=>?_⟩,fun x c e=>?_,I.hok.fresh (Nat.le_refl _),fun x c e=>I.sW x c (L.sub x c e),fun q hq=>(no hq).elim,I.hok.kept kp,S.1⟩
 ·rcases hx with hx|hx
  ·exact absurd rfl (L.nc _ (PySem.mem_of_lookup hx))
  ·exact L.has x hx
 ·rcases S.2 i x v' e1 e2 with⟨k1,rfl,rfl⟩|⟨k1,j,j1,j2,j3⟩
  ·refine⟨u,r,.inl ⟨k1,?_⟩⟩
   show List.lookup x [(x,u)]=some u
   rw[List.lookup_cons,beq_self_eq_true]
  ·obtain⟨m,hn,hl⟩:=I.loc
   obtain⟨w',rw',l⟩:=hl j x v' j1 j2 (.inr (.inl j3))
   rcases l with⟨l1,_⟩|⟨_,c,c1,c2⟩
   ·have z:X.env.scope.names.lookup x=some .local:=l1
    rw[j3] at z;cases z
   ·obtain⟨c',e'⟩:=L.has x k1
    have z:=L.sub x c' e'
    rw[c1] at z
    obtain rfl:=Option.some.inj z
    obtain⟨o,ho,hd⟩:=c2
    exact⟨w',rw',.inr ⟨.inr k1,c,e',o,kp _ _ ho,hd⟩⟩
 ·obtain⟨v',o,ho,hd⟩:=I.cell x c (L.sub x c e)
  exact⟨v',o,kp _ _ ho,hd⟩
theorem VR(I:Inv X pins σ H s){A:Around}{scope:Scope}{cl:List (Str×Addr)}{qual:Str}{f:Addr}{c':Addr}{ct pm:Value}{params:Arguments}{body:Expr}{NL:List Str}{σL:St}{p:Str}{v:V}{u:Value}
  (ho:s.heap.get? f=some (PySem.W.kla_obj "<lambda>" qual params body scope cl pm c' ct)) (hcd:s.heap.CodeRec (.ref c') qual) (hroom:A.depth<recursionLimit)
  (hA:A.frames=some X.stack) (hh:A.handled=none) (L:VN X scope cl p) (S:VP X scope σ p v NL σL) (r:RelV v u)
  (hbind:bindArgs (PySem.W.kla_fn "<lambda>" qual params body scope cl pm (.ref c') ct) ⟨[u],[]⟩=pure [(p,u)])
  {t:TE} (ht:PE (X.lam A s H NL (newEnv scope s.heap.objs.size mainGlobals cl (qual++".<locals>.") (some f) (.ref c') none builtinsNs)) body t) {Q:VK} (q:t σL H Q) {E:Value→Shared→Prop}:
  wpAny (model X.prog X.w) A (call (.ref f) [u]) (EP X pins σ Q) E s:=by
 refine wpAny_call (codeAny_mono (PySem.W.kla_callFunE (R:=fun r s'=>∃u',r= .ok (.ret u')∧EP X pins σ Q u' s') hroom ho rfl L.co L.gen rfl hcd ?_) fun r s' hq=>?_)
 ·rw[hbind]
  refine wpAny_pure (wpAny_newFunctionEnv L.nc (fun y hy=>?_) (fun h' hns hsb=>⟨(I.nolimit).fresh _ hsb,?_⟩) L.kind)
  ·obtain rfl:=List.mem_singleton.mp hy
   exact L.par
  ·refine PySem.W.kla_codeExpr (wpAny_mono (ht [] _ σL H Q (Tz I hA hh L S r hns hsb) q) (fun u' s' z=>?_) fun _ _ z=>z.elim)
   obtain⟨v',H',J,rv,q'⟩:=z
   exact⟨u',rfl,I.after ⟨v',H',J.os,J.bare,J.base,J.hok,rv,q'⟩⟩
 ·obtain⟨u',rfl,e⟩:=hq
  exact e
def JN(c:Addr)(qual:Str):Heap→Prop:=fun h=>h.CodeRec (.ref c) qual
def TabOk(pos:Pos)(qual:Str)(H:Hp)(P:Addr):Prop:=
 H P=some (.tbl #[])∨∃c,H P=some (.tbl #[rawInt pos.line,rawInt pos.col,.ref c])∧H c=some (.ext (JN c qual))
theorem TabOk.same{pos:Pos}{qual:Str}{H H':Hp}{P:Addr}(h:TabOk pos qual H P)(k:Same H H'):TabOk pos qual H' P:=by
 rcases h with h|⟨c,h1,h2⟩
 ·exact .inl (k _ _ h)
 ·exact .inr ⟨c,k _ _ h1,k _ _ h2⟩
def uo(mg:Str→Option Value)(base:Heap):Prop:=∃bm ob,mg "__builtins__"=some (.ref bm)∧bm≠builtinsNs∧base.get? bm=some ob∧ob.cls= .type "module"∧ob.dict=some builtinsNs∧ob.data= .plain
theorem DX{h1 h2:Heap}{c:Addr}{qual:Str}(r:h1.CodeRec (.ref c) qual)(k: ∀o,h1.get? c=some o→h2.get? c=some o):h2.CodeRec (.ref c) qual:=by
 obtain⟨c',oc,vs,t,e,hoc,hd,hv⟩:=r
 cases e
 exact⟨c,oc,vs,t,rfl,k _ hoc,hd,hv⟩
theorem Wa(I:Inv X pins σ H s){params:Arguments}{body:Expr}{scope:Scope}{iR:Pos}{P c:Addr}{cl:List (Str×Addr)}{Q:Value→Shared→Prop}{E:Value→Shared→Prop}
  (hdef:defaultsOf params X.env=([],[])) (hcl:closureFor scope X.env=pure cl) (hcode:X.env.code= .ref c) (C:PySem.W.CodeHd X.base c P) (BM:uo X.mg X.base) (T:TabOk iR (X.env.qual++"<lambda>") H P)
  (hl1:codeAmong iR ([]:List Value)=none) (hl2: ∀c',codeAmong iR [rawInt iR.line,rawInt iR.col,.ref c']=some (.ref c')) (ht2: ∀c',TriplesOk [rawInt iR.line,rawInt iR.col,.ref c'])
  (h: ∀(f c':Addr) (pm ct:Value) (H':Hp) (s':Shared),Inv X (pins++[(f,PySem.W.kla_obj "<lambda>" (X.env.qual++"<lambda>") params body scope cl pm c' ct)]) σ H' s'→TabOk iR (X.env.qual++"<lambda>") H' P→aL [P] H H'→
   H' c'=some (.ext (JN c' (X.env.qual++"<lambda>")))→Q (.ref f) s'):wpAny (model X.prog X.w) X.A (eval (.Lambda params body scope iR) X.env) Q E s:=by
 refine PySem.W.kla_eval hdef ?_
 obtain⟨bm,ob,b1,b2,b3,b4,b5,b6⟩:=BM
 have hgs:=I.mod.glob.keeps I.bk
 have hPt: ∀{ps:Array Value},H P=some (.tbl ps)→s.heap.get? P=some (PySem.W.tabObj ps):=fun e=>I.hok P _ e
 have hgP: ∀{ps:Array Value},H P=some (.tbl ps)→mainGlobals≠P:=fun e q=>by
  obtain⟨o,es,ep,e2,hd,_⟩:=hgs
  rw[q,hPt e] at e2;cases e2;cases hd
 have hbP: ∀{ps:Array Value},H P=some (.tbl ps)→bm≠P:=fun e q=>by
  have e2:=I.bk _ _ b3
  rw[q,hPt e] at e2;cases e2;cases b4
 have hbG:bm≠mainGlobals:=fun q=>by
  obtain⟨o,es,ep,e,hd,_⟩:=I.mod.glob
  rw[q,e] at b3;cases b3;rw[hd] at b6;cases b6
 have fpin: ∀{s2:Shared} {H2:Hp} {f:Addr} {fo:Obj},Inv X pins σ H2 s2→s.heap.objs.size≤f→s2.heap.get? f=some fo→H2 f=none→(∀v,fo.data≠ .cell v)→Inv X (pins++[(f,fo)]) σ H2 s2:=fun{s2 H2 f fo} J hs hg hn hd=>
  J.qK fun q hq=>(List.mem_append.mp hq).elim (fun z=>J.pin q (List.mem_append_right _ z)) fun z=>by
   obtain rfl:=List.mem_singleton.mp z
   exact⟨hg,hn,Nat.ne_of_gt (Nat.lt_of_lt_of_le I.lt hs),I.nofs hs,hd⟩
 rcases T with T|⟨c0,T,T2⟩
 ·refine PySem.W.kla_makeFunction (mg:=X.mg) hcl I.ok.glob hgs hcode (C.keeps I.bk) (hPt T) (by exact trivial) hl1 (hgP T) ⟨bm,ob,b1,b2,hbG,hbP T,I.bk _ _ b3,b4,b5,b6⟩ fun c' ct h' tk hx hge hlt hrec htb=>?_
  have nc:H c'=none:=I.hok.fresh hge
  have ncP:c'≠P:=fun e=>by rw[e,T] at nc;cases nc
  have aa2: ∀{b:Addr} {o:Obj},s.heap.get? b=some o→b≠c':=fun e=>Nat.ne_of_lt (Nat.lt_of_lt_of_le (Heap.lt_size e) hge)
  have Hlt: ∀{b:Addr} {o:HO},H b=some o→b≠c':=fun e=>aG e nc
  generalize hfo:PySem.W.kla_obj "<lambda>" (X.env.qual++"<lambda>") params body scope cl ((X.mg "__name__").getD .none) c' ct=fo
  have kp: ∀b o,b≠P→s.heap.get? b=some o→(h'.push fo).get? b=some o:=fun b o n e=>Heap.get?_push_of_some _ (hx b o n e)
  have hP':(h'.push fo).get? P=some (PySem.W.tabObj #[rawInt iR.line,rawInt iR.col,.ref c']):=Heap.get?_push_of_some _ (by rw[htb];simp)
  have hrec':(h'.push fo).CodeRec (.ref c') (X.env.qual++"<lambda>"):=DX hrec fun o e=>Heap.get?_push_of_some _ e
  have un:Un X.fs [] H (upd (upd H P (.tbl #[rawInt iR.line,rawInt iR.col,.ref c'])) c' (.ext (JN c' (X.env.qual++"<lambda>")))) s.heap (h'.push fo):=by
   have nP: ∀{b:Addr},H b=none→b≠P:=fun{b} n e=>by rw[e,T] at n;cases n
   refine⟨fun b o e n _ _=>kp b o (nP n) e,fun b o e n _ _=>⟨o.slots,kp b o (nP n) e⟩,fun b o e n _=>?_,fun b o e _=>?_,fun b xs e=>?_,fun b o u e=>?_,fun b ps e=>?_⟩
   ·rw[aJ (aa2 e),aJ (nP n)];exact n
   ·by_cases q:b=P
    ·exact⟨_,by rw[q];exact hP'⟩
    ·exact⟨o,kp b o q e⟩
   ·rw[aJ (Hlt e),aJ (d8 e T (fun q=>nomatch q))];exact e
   ·rw[aJ (Hlt e),aJ (d8 e T (fun q=>nomatch q))];exact e
   ·rw[aJ (Hlt e)]
    by_cases q:b=P
    ·subst q
     rw[T] at e
     cases e
     exact⟨#[rawInt iR.line,rawInt iR.col,.ref c'],by rw[aA];simp⟩
    ·exact⟨#[],by rw[aJ q,e];simp⟩
  have hok:HOk X.prog X.w (upd (upd H P (.tbl #[rawInt iR.line,rawInt iR.col,.ref c'])) c' (.ext (JN c' (X.env.qual++"<lambda>")))) (h'.push fo):=fun b u e=>by
   by_cases q:b=c'
   ·subst q
    rw[aA] at e
    cases e
    refine⟨hrec',?_,fun h1 h2 z1 z2=>DX z1 z2⟩
    obtain⟨c'',oc,vs,t,ee,hoc,_⟩:=hrec'
    cases ee
    exact⟨oc,hoc⟩
   ·rw[aJ q] at e
    by_cases qP:b=P
    ·subst qP
     rw[aA] at e
     cases e
     exact hP'
    ·rw[aJ qP] at e
     refine(I.hok b u e).stay (fun d w hd z=>kp d w ?_ z) (fun d z=>?_) fun d xs z=>?_
     ·rcases hd with rfl|hd
      ·exact qP
      ·exact d8 hd T (fun q=>nomatch q)
     ·rw[aJ (Hlt z),aJ (d8 z T (fun q=>nomatch q))];exact z
     ·rw[aJ (Hlt z),aJ (d8 z T (fun q=>nomatch q))];exact z
  have J:Inv X pins σ _ {s with heap:=h'.push fo,toks:=tk}:=I.un (t':=tk) un hok
  have hf:s.heap.objs.size≤h'.objs.size:=Nat.le_trans hge (Nat.le_of_lt hlt)
  subst hfo
  refine h h'.objs.size c' _ ct _ _ (fpin J hf (Heap.get?_push_size _ rfl) ?_ (fun v z=>nomatch z)) (.inr ⟨c',by rw[aJ (Ne.symm ncP),aA],aA⟩) ?_ aA
  ·have n1:H h'.objs.size=none:=I.hok.fresh hf
   rw[aJ (Nat.ne_of_gt hlt),aJ (fun e=>by rw[e,T] at n1;cases n1)]
   exact n1
  ·intro b o e n
   rw[aJ (Hlt e),aJ (by simpa using n)]
   exact e
 ·refine PySem.W.kla_makeFunctionHit (mg:=X.mg) (cv:= .ref c0) hcl I.ok.glob hgs hcode (C.keeps I.bk) (hPt T) (by simpa using ht2 c0) (by simpa using hl2 c0) ⟨bm,ob,b1,b2,hbG,hbP T,I.bk _ _ b3,b4,b5,b6⟩ fun ct h' tk hk hsz=>?_
  have kp: ∀fo:Obj,∀b o,s.heap.get? b=some o→(h'.push fo).get? b=some o:=fun fo b o e=>Heap.get?_push_of_some _ (hk b o e)
  have J:Inv X pins σ H {s with heap:=h'.push (PySem.W.kla_obj "<lambda>" (X.env.qual++"<lambda>") params body scope cl ((X.mg "__name__").getD .none) c0 ct),toks:=tk}:=I.kept (t':=tk) (kp _)
  exact h h'.objs.size c0 _ ct H _ (fpin J hsz (Heap.get?_push_size _ rfl) (I.hok.fresh hsz) (fun v z=>nomatch z)) (.inr ⟨c0,T,T2⟩) (fun b o e _=>e) T2
end
end L2
namespace Fs
open Sx03 Sx03Neutral
abbrev jJ:=Sx03.Call
abbrev SSt:=Sx03.St
theorem call_one{l:List Int}{c:List (List Int)}{t:List Int}(h:PyWide.call l=some (c,t))(hc:c.length=1):
  ∃p ns,l=p::(ns.length:Int)::(ns++0::t)∧c=[p::ns]:=by
 unfold PyWide.call at h
 split at h
 ·cases h
 ·rename_i p r
  split at h
  ·cases h
  ·cases h
  ·rename_i ns k u hrow
   split at h
   ·rename_i hk
    split at h
    ·cases h
    ·rename_i xs v wz
     injection h with h
     injection h with h1 h2
     subst h2
     have hx:xs=[]:=by
      rw[←h1] at hc
      simpa using hc
     have hk0:k.toNat=0:=by
      cases e:k.toNat with
      |zero=>rfl
      |succ m=>
       rw[e] at wz
       unfold PyFlat.rows at wz
       split at wz
       ·cases wz
       ·split at wz
        ·cases wz
        ·injection wz with q
         injection q with q1 q2
         rw[hx] at q1
         cases q1
     have hkz:k=0:=by omega
     rw[hk0] at wz
     unfold PyFlat.rows at wz
     injection wz with q
     injection q with q1 q2
     subst q2
     unfold PyFlat.row at hrow
     split at hrow
     ·cases hrow
     ·rename_i n r'
      split at hrow
      ·rename_i hn
       injection hrow with q
       injection q with q3 q4
       refine⟨p,ns,?_,?_⟩
       ·have hl:ns.length=n.toNat:=by
         rw[←q3,List.length_take]
         omega
        have e:r'=ns++k::u:=by
         rw[←q3,←q4,List.take_append_drop]
        rw[e,hkz,hl]
        have:((n.toNat:Nat):Int)=n:=by omega
        rw[this]
       ·rw[←h1,hx]
      ·cases hrow
   ·cases h
theorem Qc{f:Nat}{l:List Int}{c:List (List Int)}{cs:List (List (List Int))}(h:PyWide.calls f l=some (c::cs))(hc:c.length=1):
  ∃f' p ns rest,l=p::(ns.length:Int)::(ns++0::rest)∧c=[p::ns]∧PyWide.calls f' rest=some cs:=by
 unfold PyWide.calls at h
 split at h
 ·injection h with h;cases h
 ·cases h
 ·rename_i f' p r
  split at h
  ·cases h
  ·rename_i c' t hcall
   split at h
   ·cases h
   ·rename_i cs' Z0
    injection h with h
    injection h with h1 h2
    subst h1 h2
    obtain⟨p',ns,e1,e2⟩:=call_one hcall hc
    exact⟨f',p',ns,t,e1,e2,Z0⟩
theorem TF{f:Nat}{l:List Int}(h:PyWide.calls f l=some []):l=[]:=by
 unfold PyWide.calls at h
 split at h
 ·rfl
 ·cases h
 ·split at h
  ·cases h
  ·split at h
   ·cases h
   ·injection h with h;cases h
def Legal:SSt→List jJ→Prop
 |_,[]=>True
 |s,x::r=>callOf (callOut x)=some x∧asked1 x=true∧(∀t,x= .parts t→(Sx03.cells s.dims).length≤12)∧Legal (Sx03.step s x).1 r
def jZ(a:Sx03.Ans):List Int:=a.v::a.l
def plays:SSt→List jJ→List (List Int)
 |_,[]=>[]
 |s,x::r=>jZ (Sx03.step s x).2::plays (Sx03.step s x).1 r
def flat:List jJ→List Int
 |[]=>[]
 |x::r=>(callOut x).headD 0::(((callOut x).tail.length:Nat):Int)::((callOut x).tail++0::flat r)
theorem XS{s:SSt}{x:jJ}(h:callOf (callOut x)=some x):Sx03Neutral.step s [callOut x]=((Sx03.step s x).1,jZ (Sx03.step s x).2):=by
 unfold Sx03Neutral.step
 show(match callOf (callOut x) with
  |some x=>((Sx03.step s x).1,(Sx03.step s x).2.v::(Sx03.step s x).2.l)
  |none=>(s,[]))=_
 rw[h]
 rfl
theorem Ni: ∀{cs:List (List (List Int))} {f:Nat} {l:List Int} {s:SSt},PyWide.calls f l=some cs→
  (cs.all fun(c:Sx03Neutral.Call)=>c.length==1&&(match callOf (c.headD []) with
   |some x=>asked1 x&&callOut x==c.headD []
   |none=>false))=true→fewCells s cs=true→
  ∃xs:List jJ,l=flat xs∧Legal s xs∧xs.length=cs.length∧PyFlat.played Sx03Neutral.step s cs=plays s xs
 |[],f,l,s,h,_,_=>⟨[],TF h,True.intro,rfl,rfl⟩
 |c::cs,f,l,s,h,ha,hf=>by
  rw[List.all_cons,Bool.and_eq_true,Bool.and_eq_true] at ha
  obtain⟨⟨h1,h2⟩,h3⟩:=ha
  obtain⟨f',p,ns,rest,e1,e2,e3⟩:=Qc h (by simpa using h1)
  subst e2
  have e:([p::ns]:List (List Int)).headD []=p::ns:=rfl
  rw[e] at h2
  cases hc:callOf (p::ns) with
  |none=>rw[hc] at h2;cases h2
  |some x=>
   rw[hc] at h2
   obtain⟨h4,h5⟩:=(Bool.and_eq_true _ _).mp h2
   have h5:callOut x=p::ns:=by simpa using h5
   have h6:callOf (callOut x)=some x:=by rw[h5];exact hc
   have h7:=XS (s:=s) h6
   rw[h5] at h7
   unfold fewCells at hf
   rw[e,hc,h7] at hf
   obtain⟨h8,h9⟩:=(Bool.and_eq_true _ _).mp hf
   obtain⟨xs,q1,q2,q3,q4⟩:=Ni e3 h3 h9
   refine⟨x::xs,?_,⟨h6,h4,?_,q2⟩,by rw[List.length_cons,List.length_cons,q3],?_⟩
   ·show l=(callOut x).headD 0::(((callOut x).tail.length:Nat):Int)::((callOut x).tail++0::flat xs)
    rw[h5,e1,q1]
    rfl
   ·rintro t rfl
    exact of_decide_eq_true h8
   ·show(Sx03Neutral.step s [p::ns]).2::PyFlat.played Sx03Neutral.step (Sx03Neutral.step s [p::ns]).1 cs=_
    rw[h7,q4]
    rfl
theorem uq: ∀(s:SSt) (cs:List Sx03Neutral.Call),Sx03Neutral.answers s cs=PyFlat.played Sx03Neutral.step s cs
 |_,[]=>rfl
 |s,c::r=>by
  show(Sx03Neutral.step s c).2::Sx03Neutral.answers (Sx03Neutral.step s c).1 r=(Sx03Neutral.step s c).2::PyFlat.played Sx03Neutral.step (Sx03Neutral.step s c).1 r
  rw[uq]
theorem Wb{l:List Int}(h:PySx03.answers_asked l=true):
  ∃xs:List jJ,l=flat xs∧xs.length≤200∧Legal Sx03.none_ xs∧PySx03.answers l=PyFlat.told (plays Sx03.none_ xs)∧((plays Sx03.none_ xs).map fun a=>a.length).sum<1000000:=by
 unfold PySx03.answers_asked at h
 unfold PySx03.answers
 cases hc:PySx03.calls l with
 |none=>rw[hc] at h;cases h
 |some cs=>
  rw[hc] at h
  obtain⟨h1,h2⟩:=(Bool.and_eq_true _ _).mp h
  unfold Sx03Neutral.asked at h2
  obtain⟨_,h3⟩:=(Bool.and_eq_true _ _).mp h2
  obtain⟨h4,h5⟩:=(Bool.and_eq_true _ _).mp h3
  obtain⟨h6,h7⟩:=(Bool.and_eq_true _ _).mp h5
  obtain⟨h8,h9⟩:=(Bool.and_eq_true _ _).mp h7
  obtain⟨xs,q1,q2,q3,q4⟩:=Ni (s:=Sx03.none_) hc h6 h8
  refine⟨xs,q1,by rw[q3];exact of_decide_eq_true h4,q2,by show PyFlat.told (PyFlat.played Sx03Neutral.step Sx03.none_ cs)=_;rw[q4],?_⟩
  have h9:=of_decide_eq_true h9
  rw[uq,show Sx03Neutral.start=Sx03.none_ from rfl,q4] at h9
  exact h9
end Fs
namespace Fs
open Sx03
def num:List Nat→List Nat→Nat
 |n::ds,i::c=>i * product ds+num ds c
 |_,_=>0
theorem mH(n:Nat)(ds:List Nat):product (n::ds)=n * product ds:=rfl
theorem jx{n i:Nat}{ds c:List Nat}:isCell (n::ds) (i::c)=true↔i<n∧isCell ds c=true:=by
 unfold isCell
 simp only[List.length_cons,List.zip_cons_cons,List.all_cons,Bool.and_eq_true,beq_iff_eq,decide_eq_true_eq,Nat.add_right_cancel_iff]
 exact⟨fun⟨a,b,c⟩=>⟨b,a,c⟩,fun⟨b,a,c⟩=>⟨a,b,c⟩⟩
theorem j4{c:List Nat}:isCell [] c=true↔c=[]:=by
 unfold isCell
 cases c with
 |nil=>simp
 |cons a r=>simp
theorem qg{n:Nat}{ds:List Nat}: ¬isCell (n::ds) []=true:=by
 unfold isCell
 simp
theorem DY{α β:Type}(f:α→List β)(m:Nat): ∀(l:List α),(∀x∈l,(f x).length=m)→(l.flatMap f).length=l.length * m
 |[],_=>by simp
 |a::r,h=>by
  rw[List.flatMap_cons,List.length_append,DY f m r fun x hx=>h x (List.mem_cons_of_mem _ hx),h a List.mem_cons_self,List.length_cons,Nat.add_mul]
  omega
theorem fW: ∀ds:List Nat,(cells ds).length=product ds
 |[]=>rfl
 |n::r=>by
  unfold cells
  rw[DY _ (product r) _ fun x _=>by rw[List.length_map,fW r],List.length_range,mH]
theorem gJ: ∀{ds c:List Nat},c∈cells ds↔isCell ds c=true
 |[],c=>by rw[j4];unfold cells;simp
 |n::r,c=>by
  unfold cells
  rw[List.mem_flatMap]
  constructor
  ·rintro⟨i,hi,h⟩
   obtain⟨c',hc',rfl⟩:=List.mem_map.mp h
   exact jx.mpr ⟨List.mem_range.mp hi,gJ.mp hc'⟩
  ·intro h
   cases c with
   |nil=>exact absurd h qg
   |cons i c=>
    obtain⟨h1,h2⟩:=jx.mp h
    exact⟨i,List.mem_range.mpr h1,List.mem_map.mpr ⟨c,gJ.mpr h2,rfl⟩⟩
theorem Qe: ∀{ds c:List Nat},isCell ds c=true→num ds c<product ds
 |[],c,h=>by rw[j4.mp h];decide
 |n::r,[],h=>absurd h qg
 |n::r,i::c,h=>by
  obtain⟨h1,h2⟩:=jx.mp h
  have h3:=Qe h2
  show i * product r+num r c<n * product r
  have:(i+1) * product r≤n * product r:=Nat.mul_le_mul_right _ h1
  rw[Nat.add_mul] at this
  omega
theorem Ea{α β:Type}(f:α→List β)(m:Nat): ∀(l:List α) (i j:Nat) (x:α),(∀x∈l,(f x).length=m)→l[i]?=some x→j<m→(l.flatMap f)[i * m+j]?=(f x)[j]?
 |[],i,j,x,_,h,_=>by simp at h
 |a::r,0,j,x,h,hx,hj=>by
  have e:a=x:=Option.some.inj hx
  subst e
  rw[List.flatMap_cons,Nat.zero_mul,Nat.zero_add,List.getElem?_append_left (by rw[h a List.mem_cons_self];exact hj)]
 |a::r,i+1,j,x,h,hx,hj=>by
  have ha:=h a List.mem_cons_self
  rw[List.flatMap_cons,List.getElem?_append_right (by rw[ha,Nat.add_mul];omega),ha]
  have e:(i+1) * m+j - m=i * m+j:=by rw[Nat.add_mul];omega
  rw[e]
  exact Ea f m r i j x (fun x hx=>h x (List.mem_cons_of_mem _ hx)) hx hj
theorem mQ: ∀{ds c:List Nat},isCell ds c=true→(cells ds)[num ds c]?=some c
 |[],c,h=>by rw[j4.mp h];rfl
 |n::r,[],h=>absurd h qg
 |n::r,i::c,h=>by
  obtain⟨h1,h2⟩:=jx.mp h
  unfold cells
  show((List.range n).flatMap fun i=>(cells r).map fun c=>i::c)[i * product r+num r c]?=_
  rw[Ea _ (product r) _ i (num r c) i (fun x _=>by rw[List.length_map,fW]) (by rw[List.getElem?_range h1]) (Qe h2),List.getElem?_map,mQ h2]
  rfl
theorem CG{ds c d:List Nat}(h:isCell ds c=true)(h':isCell ds d=true)(e:num ds c=num ds d):c=d:=by
 have h1:=mQ h
 rw[e,mQ h'] at h1
 exact(Option.some.inj h1).symm
theorem JQ: ∀{ds:List Nat} {i:Nat} {c:List Nat},(cells ds)[i]?=some c→num ds c=i
 |[],i,c,h=>by
  unfold cells at h
  cases i with
  |zero=>have e:[]=c:=Option.some.inj h;subst e;rfl
  |succ i=>simp at h
 |n::r,i,c,h=>by
  have hi:i<(cells (n::r)).length:=(List.getElem?_eq_some_iff.mp h).1
  rw[fW,mH] at hi
  have hp:0<product r:=Nat.pos_of_ne_zero fun e=>by rw[e,Nat.mul_zero] at hi;omega
  have hd:i / product r<n:=Nat.div_lt_of_lt_mul (by rw[Nat.mul_comm];exact hi)
  have hm:i % product r<product r:=Nat.mod_lt _ hp
  have e:i=i / product r * product r+i % product r:=by
   have:=Nat.div_add_mod i (product r)
   rw[Nat.mul_comm] at this
   omega
  unfold cells at h
  rw[e,Ea _ (product r) _ (i / product r) (i % product r) (i / product r) (fun x _=>by rw[List.length_map,fW]) (by rw[List.getElem?_range hd]) hm,List.getElem?_map] at h
  cases h2:(cells r)[i % product r]? with
  |none=>rw[h2] at h;cases h
  |some c'=>
   rw[h2] at h
   have e2:(i / product r)::c'=c:=Option.some.inj h
   subst e2
   show i / product r * product r+num r c'=i
   rw[JQ h2]
   omega
theorem Nj{ds:List Nat}{i:Nat}{c:List Nat}(h:(cells ds)[i]?=some c):isCell ds c=true:=gJ.mp (List.mem_of_getElem? h)
theorem Nk: ∀{ds c:List Nat} (a:Nat),isCell ds c=true→(ds.zip c).foldl (fun n x=>n * x.1+x.2) a=a * product ds+num ds c
 |[],c,a,h=>by rw[j4.mp h];show a=a * 1+0;omega
 |n::r,[],a,h=>absurd h qg
 |n::r,i::c,a,h=>by
  obtain⟨h1,h2⟩:=jx.mp h
  rw[List.zip_cons_cons,List.foldl_cons,Nk _ h2,mH]
  show(a * n+i) * product r+num r c=a * (n * product r)+(i * product r+num r c)
  rw[Nat.add_mul,Nat.mul_assoc]
  omega
theorem j5{ds c:List Nat}:isCell ds c=true↔c.length=ds.length∧∀(i v n:Nat),c[i]?=some v→ds[i]?=some n→v<n:=by
 induction ds generalizing c with
 |nil=>
  rw[j4]
  constructor
  ·rintro rfl;simp
  ·rintro⟨h,_⟩;simpa using h
 |cons n r ih=>
  cases c with
  |nil=>
   constructor
   ·intro h;exact absurd h qg
   ·rintro⟨h,_⟩;simp at h
  |cons a c=>
   rw[jx,ih]
   constructor
   ·rintro⟨h1,h2,h3⟩
    refine⟨by simp[h2],fun i v m hi hm=>?_⟩
    cases i with
    |zero=>simp at hi hm;omega
    |succ i=>exact h3 i v m (by simpa using hi) (by simpa using hm)
   ·rintro⟨h1,h2⟩
    exact⟨h2 0 a n rfl rfl,by simpa using h1,fun i v m hi hm=>h2 (i+1) v m (by simpa using hi) (by simpa using hm)⟩
def Wc(cl:List (Option Nat)):Prop:=∀(k p:Nat),cl[k]?=some (some p)→p<k
theorem getD_some{cl:List (Option Nat)}{k p:Nat}(h:cl.getD k none=some p):cl[k]?=some (some p):=by
 rw[List.getD_eq_getElem?_getD] at h
 cases e:cl[k]? with
 |none=>rw[e] at h;cases h
 |some x=>rw[e] at h;exact congrArg some h
theorem Ir{cl:List (Option Nat)}(hp:Wc cl): ∀(f g k:Nat),k<f→k<g→lineOf cl f k=lineOf cl g k
 |0,_,_,h,_=>absurd h (Nat.not_lt_zero _)
 |_+1,0,_,_,h=>absurd h (Nat.not_lt_zero _)
 |f+1,g+1,k,h1,h2=>by
  unfold lineOf
  cases e:cl.getD k none with
  |none=>rfl
  |some p=>
   have:=hp k p (getD_some e)
   show k::lineOf cl f p=k::lineOf cl g p
   rw[Ir hp f g p (by omega) (by omega)]
def above(s:St)(k:Nat):List Nat:=match s.classes.getD k none with
 |some p=>s.line p
 |none=>[]
theorem TJ{s:St}(hp:Wc s.classes){k:Nat}(hk:k<s.classes.length):s.line k=k::above s k:=by
 unfold St.line above
 cases n:s.classes.length with
 |zero=>omega
 |succ m=>
  unfold lineOf
  cases e:s.classes.getD k none with
  |none=>rfl
  |some p=>
   have h:=hp k p (getD_some e)
   show k::lineOf s.classes m p=k::lineOf s.classes s.classes.length p
   rw[Ir hp m s.classes.length p (by omega) (by omega)]
theorem Nm{cl:List (Option Nat)}: ∀(f k:Nat),(lineOf cl f k).length≤f
 |0,_=>by unfold lineOf;exact Nat.le_refl _
 |f+1,k=>by
  unfold lineOf
  cases e:cl.getD k none with
  |none=>show 1≤f+1;omega
  |some p=>exact Nat.succ_le_succ (Nm f p)
section
variable{α:Type}(bt:α→α→Bool)
def yt(m:Option α)(x:α):Option α:=match m with
 |none=>some x
 |some y=>if bt x y=true then some x else some y
theorem zQ(tr: ∀x y z,bt x y=true→bt y z=true→bt x z=true)(tot: ∀x y,x=y∨bt x y=true∨bt y x=true): ∀(L:List α) (m:α),∃m',L.foldl (yt bt) (some m)=some m'∧(m'=m∨m'∈L)∧(m=m'∨bt m' m=true)∧∀y∈L,y=m'∨bt m' y=true
 |[],m=>⟨m,rfl,.inl rfl,.inl rfl,fun y h=>by cases h⟩
 |x::L,m=>by
  by_cases h:bt x m=true
  ·obtain⟨m',e,h1,h2,h3⟩:=zQ tr tot L x
   refine⟨m',?_,?_,?_,fun y hy=>?_⟩
   ·rw[List.foldl_cons,show yt bt (some m) x=some x by unfold yt;exact if_pos h];exact e
   ·exact h1.elim (fun q=> .inr (by rw[q];exact List.mem_cons_self)) fun q=> .inr (List.mem_cons_of_mem _ q)
   ·exact .inr (h2.elim (fun q=>by rw[←q];exact h) fun q=>tr _ _ _ q h)
   ·rcases List.mem_cons.mp hy with rfl|hy
    ·exact h2
    ·exact h3 y hy
  ·obtain⟨m',e,h1,h2,h3⟩:=zQ tr tot L m
   refine⟨m',?_,?_,h2,fun y hy=>?_⟩
   ·rw[List.foldl_cons,show yt bt (some m) x=some m by unfold yt;exact if_neg h];exact e
   ·exact h1.elim .inl fun q=> .inr (List.mem_cons_of_mem _ q)
   ·rcases List.mem_cons.mp hy with rfl|hy
    ·have hmy:m=y∨bt m y=true:=by
      rcases tot y m with q|q|q
      ·exact .inl q.symm
      ·exact absurd q h
      ·exact .inr q
     rcases hmy with rfl|hmy
     ·exact h2
     ·exact .inr (h2.elim (fun q=>by rw[←q];exact hmy) fun q=>tr _ _ _ q hmy)
    ·exact h3 y hy
theorem TQ(tr: ∀x y z,bt x y=true→bt y z=true→bt x z=true)(tot: ∀x y,x=y∨bt x y=true∨bt y x=true)(L:List α):
  (L=[]∧L.foldl (yt bt) none=none)∨∃m',L.foldl (yt bt) none=some m'∧m'∈L∧∀y∈L,y=m'∨bt m' y=true:=by
 cases L with
 |nil=>exact .inl ⟨rfl,rfl⟩
 |cons x L=>
  obtain⟨m',e,h1,h2,h3⟩:=zQ bt tr tot L x
  refine .inr ⟨m',e,?_,fun y hy=>?_⟩
  ·exact h1.elim (fun q=>by rw[q];exact List.mem_cons_self) fun q=>List.mem_cons_of_mem _ q
  ·rcases List.mem_cons.mp hy with rfl|hy
   ·exact h2
   ·exact h3 y hy
end
structure jy(l:List Nat)(x y:Rule×Nat):Prop where
 is:fixed y.1.cond<fixed x.1.cond∨(fixed y.1.cond=fixed x.1.cond∧(l.idxOf x.1.cls<l.idxOf y.1.cls∨(l.idxOf x.1.cls=l.idxOf y.1.cls∧y.2<x.2)))
instance(l:List Nat)(x y:Rule×Nat):Decidable (jy l x y):=decidable_of_iff _ ⟨fun h=>⟨h⟩,fun h=>h.is⟩
theorem jy.trans{l:List Nat}{x y z:Rule×Nat}(a:jy l x y)(b:jy l y z):jy l x z:=⟨by have:=a.is;have:=b.is;omega⟩
theorem jy.asymm{l:List Nat}{x y:Rule×Nat}(a:jy l x y)(b:jy l y x):False:=by have:=a.is;have:=b.is;omega
theorem jy.tot{l:List Nat}{x y:Rule×Nat}(h:x.2≠y.2):jy l x y∨jy l y x:=by
 by_cases q:jy l x y
 ·exact .inl q
 ·refine .inr ⟨?_⟩
  have q': ¬(fixed y.1.cond<fixed x.1.cond∨(fixed y.1.cond=fixed x.1.cond∧(l.idxOf x.1.cls<l.idxOf y.1.cls∨(l.idxOf x.1.cls=l.idxOf y.1.cls∧y.2<x.2)))):=fun z=>q ⟨z⟩
  omega
theorem X3{l:List Nat}{a b:Nat}(ha:a∈l)(e:l.idxOf a=l.idxOf b):a=b:=by
 have h1:=List.idxOf_lt_length_of_mem ha
 have h2:l[l.idxOf a]'h1=a:=List.getElem_idxOf h1
 have h3:l.idxOf b<l.length:=by omega
 have h4:l[l.idxOf b]'h3=b:=List.getElem_idxOf h3
 rw[←h2,←h4]
 simp only[e]
theorem Eb{l:List Nat}{x y:Rule×Nat}(hx:x.1.cls∈l):better l x y=true↔jy l x y:=by
 unfold better
 simp only[Bool.or_eq_true,Bool.and_eq_true,decide_eq_true_eq,beq_iff_eq]
 constructor
 ·rintro(h|⟨h1,h2|⟨h3,h4⟩⟩)
  ·exact⟨.inl h⟩
  ·exact⟨.inr ⟨h1,.inl h2⟩⟩
  ·exact⟨.inr ⟨h1,.inr ⟨by rw[h3],h4⟩⟩⟩
 ·rintro⟨h|⟨h1,h2|⟨h3,h4⟩⟩⟩
  ·exact .inl h
  ·exact .inr ⟨h1,.inl h2⟩
  ·exact .inr ⟨h1,.inr ⟨X3 hx h3,h4⟩⟩
theorem mY{s:St}{k b:Nat}{c:Cell}{x:Rule×Nat}:x∈s.able k b c↔s.rules[x.2]?=some x.1∧x.1.block=b∧x.1.cls∈s.line k∧meets x.1.cond c=true:=by
 unfold St.able
 rw[List.mem_filter,List.mem_zipIdx_iff_getElem?]
 simp only[Bool.and_eq_true,beq_iff_eq,List.contains_iff_mem]
theorem Wd{s:St}{k b:Nat}{c:Cell}{x y:Rule×Nat}(hx:x∈s.able k b c)(hy:y∈s.able k b c)(e:x.2=y.2):x=y:=by
 have h1:=(mY.mp hx).1
 have h2:=(mY.mp hy).1
 rw[e,h2] at h1
 exact Prod.ext (Option.some.inj h1).symm e
theorem zR(s:St)(k b:Nat)(c:Cell):
  (s.winner k b c=none∧s.able k b c=[])∨∃x,s.winner k b c=some x∧x∈s.able k b c∧∀y∈s.able k b c,y=x∨jy (s.line k) x y:=by
 let A:=s.able k b c
 let bt:{x // x∈A}→{x // x∈A}→Bool:=fun x y=>decide (jy (s.line k) x.1 y.1)
 have e: ∀(L:List {x // x∈A}) (m:Option {x // x∈A}),(L.map (·.1)).foldl (fun(m:Option (Rule×Nat)) x=>match m with
   |none=>some x
   |some y=>if better (s.line k) x y=true then some x else some y) (m.map (·.1))=(L.foldl (yt bt) m).map (·.1):=by
  intro L
  induction L with
  |nil=>intro m;rfl
  |cons x L ih=>
   intro m
   rw[List.map_cons,List.foldl_cons,List.foldl_cons,←ih]
   congr 1
   cases m with
   |none=>rfl
   |some y=>
    have hx:=(mY.mp x.2).2.2.1
    show(if better (s.line k) x.1 y.1=true then some x.1 else some y.1)=(if decide (jy (s.line k) x.1 y.1)=true then some x else some y).map (·.1)
    by_cases q:jy (s.line k) x.1 y.1
    ·rw[if_pos ((Eb hx).mpr q),if_pos (decide_eq_true q)];rfl
    ·rw[if_neg fun z=>q ((Eb hx).mp z),if_neg (by simp[q])];rfl
 have hA:A.attach.map (·.1)=A:=List.attach_map_subtype_val A
 have w:s.winner k b c=(A.attach.foldl (yt bt) none).map (·.1):=by
  rw[←e A.attach none,hA];rfl
 rcases TQ bt (fun x y z h1 h2=>decide_eq_true ((of_decide_eq_true h1).trans (of_decide_eq_true h2)))
  (fun x y=>by
   by_cases q:x.1.2=y.1.2
   ·exact .inl (Subtype.ext (Wd x.2 y.2 q))
   ·exact .inr ((jy.tot q).elim (fun z=> .inl (decide_eq_true z)) fun z=> .inr (decide_eq_true z))) A.attach with⟨h1,h2⟩|⟨m,h1,h2,h3⟩
 ·refine .inl ⟨by rw[w,h2];rfl,?_⟩
  have:A=[]:=by rw[←hA,h1];rfl
  exact this
 ·refine .inr ⟨m.1,by rw[w,h1];rfl,m.2,fun y hy=>?_⟩
  rcases h3 ⟨y,hy⟩ (List.mem_attach _ _) with q|q
  ·exact .inl (congrArg Subtype.val q)
  ·exact .inr (of_decide_eq_true q)
theorem TV{s:St}{k b:Nat}{c:Cell}{x:Rule×Nat}(h:x∈s.able k b c)(hb: ∀y∈s.able k b c,y=x∨jy (s.line k) x y):s.winner k b c=some x:=by
 rcases zR s k b c with⟨_,h2⟩|⟨z,h1,h2,h3⟩
 ·rw[h2] at h;cases h
 ·rcases hb z h2 with q|q
  ·rw[h1,q]
  ·rcases h3 x h with q'|q'
   ·rw[h1,q']
   ·exact(q.asymm q').elim
theorem Np{s:St}{k b:Nat}{c:Cell}(h:s.able k b c=[]):s.winner k b c=none:=by
 rcases zR s k b c with⟨h1,_⟩|⟨z,_,h2,_⟩
 ·exact h1
 ·rw[h] at h2;cases h2
theorem Qg{s:St}{k b:Nat}{c:Cell}{x:Rule×Nat}(h:s.winner k b c=some x):x∈s.able k b c:=by
 rcases zR s k b c with⟨h1,_⟩|⟨z,h1,h2,_⟩
 ·rw[h1] at h;cases h
 ·rw[h1] at h;cases h;exact h2
def zT(ds:List Nat)(l:Cond):Prop:=l.length=ds.length∧∀(i v n:Nat),l[i]?=some (some v)→ds[i]?=some n→v<n
structure zU(ds:List Nat)(n:Nat)(r:Rule):Prop where
 cls:r.cls<n
 cond:zT ds r.cond
 op:opOk ds r.block r.op=true
structure Ec(ds:List Nat)(n:Nat)(w:Word):Prop where
 cls:w.cls<n
 stems:stemsOk w.stems=true
 cell: ∀p∈w.odd,isCell ds p.1=true
 len: ∀p∈w.odd,∀b,p.2=some b→b.length≤64
 nd:(w.odd.map (·.1)).Nodup
structure Wf(s:St):Prop where
 dims:s.dims=[]∨dimsOk s.dims=true
 emp:s.dims=[]→s.classes=[]∧s.rules=[]∧s.words=[]
 par:Wc s.classes
 JR:s.classes.length≤16
 Qh:s.rules.length≤200
 TX:s.words.length≤64
 rul: ∀r∈s.rules,zU s.dims s.classes.length r
 wrd: ∀w∈s.words,Ec s.dims s.classes.length w
theorem X4:Wf none_:=⟨.inl rfl,fun _=>⟨rfl,rfl,rfl⟩,fun k p h=>by unfold none_ at h;simp at h,by decide,by decide,by decide,fun r h=>(by unfold none_ at h;cases h),fun r h=>(by unfold none_ at h;cases h)⟩
theorem TY{ds:List Nat}{l:List Int}{z:Cond}(h:condOf ds l=some z):zT ds z∧z=l.map (fun z=>if z<0 then none else some z.toNat)∧l.length=ds.length∧∀(i:Nat) (v:Int) (n:Nat),l[i]?=some v→ds[i]?=some n→ -1≤v∧v<n:=by
 unfold condOf at h
 split at h
 ·rename_i hc
  injection h with h
  rw[Bool.and_eq_true,beq_iff_eq,List.all_eq_true] at hc
  obtain⟨h1,h2⟩:=hc
  have h3: ∀(i:Nat) (v:Int) (n:Nat),l[i]?=some v→ds[i]?=some n→ -1≤v∧v<n:=fun i v n hv hn=>by
   have hm:(v,n)∈l.zip ds:=List.mem_of_getElem? (i:=i) (by rw[List.getElem?_zip_eq_some];exact⟨hv,hn⟩)
   have:=h2 _ hm
   simpa using this
  refine⟨⟨by rw[←h,List.length_map,h1],fun i v n hv hn=>?_⟩,h.symm,h1,h3⟩
  rw[←h,List.getElem?_map] at hv
  cases e:l[i]? with
  |none=>rw[e] at hv;cases hv
  |some u=>
   rw[e] at hv
   have hu:=h3 i u n e hn
   have hv':(if u<0 then none else some u.toNat)=some v:=Option.some.inj hv
   split at hv'
   ·cases hv'
   ·have:=Option.some.inj hv';omega
 ·cases h
theorem zU.mono{ds:List Nat}{n m:Nat}{r:Rule}(h:zU ds n r)(q:n≤m):zU ds m r:=⟨Nat.lt_of_lt_of_le h.cls q,h.cond,h.op⟩
theorem Ec.mono{ds:List Nat}{n m:Nat}{w:Word}(h:Ec ds n w)(q:n≤m):Ec ds m w:=⟨Nat.lt_of_lt_of_le h.cls q,h.stems,h.cell,h.len,h.nd⟩
theorem mem_set{α:Type}{l:List α}{i:Nat}{x y:α}(h:y∈l.set i x):y=x∨y∈l:=by
 rcases List.mem_or_eq_of_mem_set h with h|h
 ·exact .inr h
 ·exact .inl h
theorem Wf.dimsOk{s:St}(w:Wf s)(h:s.dims≠[]):dimsOk s.dims=true:=w.dims.resolve_left h
theorem X5{s:St}(w:Wf s)(x:jJ):Wf (step s x).1:=by
 cases x with
 |new_ l=>
  show Wf (if dimsOk l=false then(s,ok (-1)) else(⟨l,[],[],[]⟩,ok (Sx03.num (product l)))).1
  split
  ·exact w
  ·rename_i h
   have h:Sx03.dimsOk l=true:=by simpa using h
   exact⟨.inr h,fun _=>⟨rfl,rfl,rfl⟩,fun k p h=>by simp at h,Nat.zero_le _,Nat.zero_le _,Nat.zero_le _,fun r h=>(nomatch h),fun r h=>(nomatch h)⟩
 |group p=>
  show Wf (if s.dims=[] then(s,ok (-4)) else if p< -1∨Sx03.num s.classes.length≤p then(s,ok (-2)) else if CLASSES≤s.classes.length then(s,ok (-5)) else({s with classes:=s.classes++[if p<0 then none else some p.toNat]},ok (Sx03.num s.classes.length))).1
  split
  ·exact w
  ·split
   ·exact w
   ·split
    ·exact w
    ·rename_i hd hp hc
     have hl:(s.classes++[if p<0 then none else some p.toNat]).length=s.classes.length+1:=by simp
     refine⟨w.dims,fun e=>absurd e hd,fun k q h=>?_,?_,w.Qh,w.TX,fun r hr=>?_,fun r hr=>?_⟩
     ·by_cases hk:k<s.classes.length
      ·rw[List.getElem?_append_left hk] at h
       exact w.par k q h
      ·rw[List.getElem?_append_right (by omega)] at h
       have hk2:k - s.classes.length=0:=by
        have:=(List.getElem?_eq_some_iff.mp h).1
        simp at this
        omega
       rw[hk2] at h
       have h:(if p<0 then none else some p.toNat)=some q:=Option.some.inj h
       split at h
       ·cases h
       ·have e:p.toNat=q:=Option.some.inj h
        have: ¬((s.classes.length:Int)≤p):=fun z=>hp (.inr z)
        omega
     ·show(s.classes++[if p<0 then none else some p.toNat]).length≤16
      have: ¬(16≤s.classes.length):=hc
      omega
     ·show zU s.dims (s.classes++[if p<0 then none else some p.toNat]).length r
      exact(w.rul r hr).mono (by omega)
     ·show Ec s.dims (s.classes++[if p<0 then none else some p.toNat]).length r
      exact(w.wrd r hr).mono (by omega)
 |rule k b l op=>
  show Wf (if s.dims=[] then(s,ok (-4)) else if s.classes.length≤k then(s,ok (-2)) else match condOf s.dims l with
   |none=>(s,ok (-1))
   |some z=>if opOk s.dims b op=false then(s,ok (-1)) else if RULES≤s.rules.length then(s,ok (-5)) else({s with rules:=s.rules++[⟨k,b,z,op⟩]},ok (Sx03.num s.rules.length))).1
  split
  ·exact w
  ·rename_i hd
   split
   ·exact w
   ·split
    ·exact w
    ·split
     ·exact w
     ·split
      ·exact w
      ·rename_i hk _ z hz ho hn
       refine⟨w.dims,fun e=>absurd e hd,w.par,w.JR,?_,w.TX,fun r hr=>?_,w.wrd⟩
       ·show(s.rules++[_]).length≤200
        have: ¬(200≤s.rules.length):=hn
        simp
        omega
       ·rcases List.mem_append.mp hr with hr|hr
        ·exact w.rul r hr
        ·obtain rfl:=List.mem_singleton.mp hr
         exact⟨by show k<s.classes.length;omega,(TY hz).1,by simpa using ho⟩
 |drop k=>
  show Wf (if s.dims=[] then(s,ok (-4)) else if s.rules.length≤k then(s,ok (-2)) else({s with rules:=s.rules.eraseIdx k},ok (Sx03.num (s.rules.length - 1)))).1
  split
  ·exact w
  ·split
   ·exact w
   ·rename_i hd hk
    refine⟨w.dims,fun e=>absurd e hd,w.par,w.JR,?_,w.TX,fun r hr=>w.rul r (List.mem_of_mem_eraseIdx hr),w.wrd⟩
    show(s.rules.eraseIdx k).length≤200
    have:=w.Qh
    rw[List.length_eraseIdx]
    split<;>omega
 |word k l=>
  show Wf (if s.dims=[] then(s,ok (-4)) else if s.classes.length≤k then(s,ok (-2)) else if stemsOk l=false then(s,ok (-1)) else if WORDS≤s.words.length then(s,ok (-5)) else({s with words:=s.words++[⟨k,l,[]⟩]},ok (Sx03.num s.words.length))).1
  split
  ·exact w
  ·split
   ·exact w
   ·split
    ·exact w
    ·split
     ·exact w
     ·rename_i hd hk hs hn
      refine⟨w.dims,fun e=>absurd e hd,w.par,w.JR,w.Qh,?_,w.rul,fun r hr=>?_⟩
      ·show(s.words++[_]).length≤64
       have: ¬(64≤s.words.length):=hn
       simp
       omega
      ·rcases List.mem_append.mp hr with hr|hr
       ·exact w.wrd r hr
       ·obtain rfl:=List.mem_singleton.mp hr
        exact⟨by show k<s.classes.length;omega,by simpa using hs,fun p h=>(nomatch h),fun p h=>(nomatch h),List.nodup_nil⟩
 |odd n c b=>
  show Wf (if s.dims=[] then(s,ok (-4)) else(match s.words[n]? with
   |none=>(s,ok (-2))
   |some x=>if(isCell s.dims c&&(b.all fun z=>decide (z.length≤64)))=false then(s,ok (-1)) else(s.setWord n {x with odd:=(x.odd.filter fun y=>y.1 != c)++[(c,b)]},ok 0))).1
  split
  ·exact w
  ·rename_i hd
   split
   ·exact w
   ·split
    ·exact w
    ·rename_i _ x hx hc
     have hc:isCell s.dims c=true∧(b.all fun z=>decide (z.length≤64))=true:=by
      rw[←Bool.and_eq_true];simpa using hc
     have wx:=w.wrd x (List.mem_of_getElem? hx)
     refine⟨w.dims,fun e=>absurd e hd,w.par,w.JR,w.Qh,by show(s.words.set n _).length≤64;rw[List.length_set];exact w.TX,w.rul,fun r hr=>?_⟩
     rcases mem_set hr with rfl|hr
     ·refine⟨wx.cls,wx.stems,fun p hp=>?_,fun p hp z hz=>?_,?_⟩
      ·rcases List.mem_append.mp hp with hp|hp
       ·exact wx.cell p (List.mem_filter.mp hp).1
       ·obtain rfl:=List.mem_singleton.mp hp
        exact hc.1
      ·rcases List.mem_append.mp hp with hp|hp
       ·exact wx.len p (List.mem_filter.mp hp).1 z hz
       ·obtain rfl:=List.mem_singleton.mp hp
        have e:b=some z:=hz
        rw[e] at hc
        simpa using hc.2
      ·show(((x.odd.filter fun y=>y.1 != c)++[(c,b)]).map (·.1)).Nodup
       rw[List.map_append]
       refine List.nodup_append.mpr ⟨(List.filter_sublist.map _).nodup wx.nd,by simp,fun a ha d hd' e=>?_⟩
       obtain⟨p,hp,rfl⟩:=List.mem_map.mp ha
       have h1:=(List.mem_filter.mp hp).2
       have h2:d=c:=by simpa using hd'
       rw[e,h2] at h1
       simp at h1
     ·exact w.wrd r hr
 |plain n c=>
  show Wf (if s.dims=[] then(s,ok (-4)) else(match s.words[n]? with
   |none=>(s,ok (-2))
   |some x=>if isCell s.dims c=false then(s,ok (-1)) else if(x.odd.any fun y=>y.1==c)=false then(s,ok (-3)) else(s.setWord n {x with odd:=x.odd.filter fun y=>y.1 != c},ok 0))).1
  split
  ·exact w
  ·rename_i hd
   split
   ·exact w
   ·split
    ·exact w
    ·split
     ·exact w
     ·rename_i _ x hx hc ha
      have wx:=w.wrd x (List.mem_of_getElem? hx)
      refine⟨w.dims,fun e=>absurd e hd,w.par,w.JR,w.Qh,by show(s.words.set n _).length≤64;rw[List.length_set];exact w.TX,w.rul,fun r hr=>?_⟩
      rcases mem_set hr with rfl|hr
      ·exact⟨wx.cls,wx.stems,fun p hp=>wx.cell p (List.mem_filter.mp hp).1,fun p hp=>wx.len p (List.mem_filter.mp hp).1,(List.filter_sublist.map _).nodup wx.nd⟩
      ·exact w.wrd r hr
 |form n c=>show Wf (if s.dims=[] then(s,ok (-4)) else _).1;split<;>exact w
 |table n=>show Wf (if s.dims=[] then(s,ok (-4)) else _).1;split<;>exact w
 |why n c=>show Wf (if s.dims=[] then(s,ok (-4)) else _).1;split<;>exact w
 |alike n=>show Wf (if s.dims=[] then(s,ok (-4)) else _).1;split<;>exact w
 |find b=>show Wf (if s.dims=[] then(s,ok (-4)) else _).1;split<;>exact w
 |may t l=>show Wf (if s.dims=[] then(s,ok (-4)) else _).1;split<;>exact w
 |parts t=>show Wf (if s.dims=[] then(s,ok (-4)) else _).1;split<;>exact w
abbrev Wg:=List (Cell×Option Bytes)
def gF(o:Wg)(c:Cell):Option (Cell×Option Bytes):=o.find? fun x=>x.1==c
theorem wN(c d:Cell): ∀o:Wg,gF (o.filter fun y=>y.1 != c) d=if d=c then none else gF o d
 |[]=>by unfold gF;simp
 |p::r=>by
  have ih:=wN c d r
  unfold gF at ih⊢
  by_cases h:p.1=c
  ·rw[List.filter_cons,if_neg (by simp[h]),ih,List.find?_cons]
   by_cases q:d=c
   ·rw[if_pos q,if_pos q]
   ·rw[if_neg q,if_neg q,show(p.1==d)=false from beq_eq_false_iff_ne.mpr (by rw[h];exact fun z=>q z.symm)]
  ·rw[List.filter_cons,if_pos (by simpa using h),List.find?_cons,List.find?_cons,ih]
   by_cases q:d=c
   ·rw[if_pos q,if_pos q,show(p.1==d)=false from beq_eq_false_iff_ne.mpr (by rw[q];exact h)]
   ·rw[if_neg q,if_neg q]
theorem T5(c d:Cell)(b:Option Bytes)(o:Wg):gF ((o.filter fun y=>y.1 != c)++[(c,b)]) d=if d=c then some (c,b) else gF o d:=by
 have e:=wN c d o
 unfold gF at e⊢
 rw[List.find?_append,e]
 by_cases q:d=c
 ·rw[if_pos q,if_pos q,q,List.find?_cons]
  simp
 ·rw[if_neg q,if_neg q,List.find?_cons,show(c==d)=false from beq_eq_false_iff_ne.mpr fun z=>q z.symm]
  simp
theorem RQ(o:Wg)(c:Cell):(o.any fun y=>y.1==c)=(gF o c).isSome:=by
 unfold gF
 induction o with
 |nil=>rfl
 |cons p r ih=>
  rw[List.any_cons,List.find?_cons,ih]
  cases p.1==c<;>simp
inductive End where
 |odd (o:Option Bytes)
 |gap (i:Nat)
 |made (c:Cell)
 |ring
def trail(s:St)(w:Word):Nat→Cell→List Nat×End
 |0,_=>([],.ring)
 |n+1,c=>match gF w.odd c with
  |some x=>([],.odd x.2)
  |none=>match s.winner w.cls 0 c with
   |some x=>(match x.1.op with
    | .refer l=>(x.2::(trail s w n (moved l c)).1,(trail s w n (moved l c)).2)
    |_=>([],.gap x.2))
   |none=>([],.made c)
def JT(s:St)(w:Word):End→Got
 | .odd (some b)=> .form b
 | .odd none=> .gap
 | .gap _=> .gap
 | .made c=>match s.made w c with
  |some b=> .form b
  |none=> .gap
 | .ring=> .ring
def madeBy(s:St)(w:Word)(c:Cell):List Nat:=(1::BLOCKS).filterMap fun b=>(s.winner w.cls b c).map fun x=>x.2
def JV(s:St)(w:Word):End→Nat×List Nat
 | .odd _=>(0,[])
 | .gap i=>(1,[i])
 | .made c=>(2,madeBy s w c)
 | .ring=>(3,[])
theorem Iu(s:St)(w:Word): ∀(n:Nat) (c:Cell),s.gotIn w n c=JT s w (trail s w n c).2
 |0,_=>rfl
 |n+1,c=>by
  unfold St.gotIn trail
  show(match gF w.odd c with
   |some x=>(match x.2 with
    |some b=>Got.form b
    |none=> .gap)
   |none=>_)=_
  cases gF w.odd c with
  |some x=>
   obtain⟨c',o⟩:=x
   cases o<;>rfl
  |none=>
   cases hx:s.winner w.cls 0 c with
   |none=>rfl
   |some x=>
    show(match x.1.op with
     | .refer l=>s.gotIn w n (moved l c)
     |_=> .gap)=JT s w (match x.1.op with
     | .refer l=>(x.2::(trail s w n (moved l c)).1,(trail s w n (moved l c)).2)
     |_=>([],.gap x.2)).2
    cases x.1.op with
    |refer l=>exact Iu s w n (moved l c)
    |_=>rfl
theorem Iv(s:St)(w:Word): ∀(n:Nat) (c:Cell),s.whyIn w n c=((JV s w (trail s w n c).2).1,(trail s w n c).1++(JV s w (trail s w n c).2).2)
 |0,_=>rfl
 |n+1,c=>by
  unfold St.whyIn trail
  rw[RQ]
  cases hO:gF w.odd c with
  |some x=>
   rw[if_pos (by rfl)]
   rfl
  |none=>
   rw[if_neg (by simp)]
   cases hx:s.winner w.cls 0 c with
   |none=>rfl
   |some x=>
    show(match x.1.op with
     | .refer l=>((s.whyIn w n (moved l c)).1,x.2::(s.whyIn w n (moved l c)).2)
     |_=>(1,[x.2]))=_
    cases ho:x.1.op with
    |refer l=>
     show((s.whyIn w n (moved l c)).1,x.2::(s.whyIn w n (moved l c)).2)=_
     rw[Iv s w n (moved l c)]
     simp only[ho]
     rfl
    |_=>simp only[ho];rfl
theorem Ed{ds:List Nat}{l:Cond}{c:Cell}(hl:zT ds l)(hc:isCell ds c=true):isCell ds (moved l c)=true:=by
 obtain⟨h1,h2⟩:=j5.mp hc
 refine j5.mpr ⟨?_,fun i v n hv hn=>?_⟩
 ·unfold moved
  rw[List.length_map,List.length_zip,hl.1,h1]
  omega
 ·unfold moved at hv
  rw[List.getElem?_map] at hv
  cases e:(l.zip c)[i]? with
  |none=>rw[e] at hv;cases hv
  |some x=>
   rw[e] at hv
   have hv:x.1.getD x.2=v:=Option.some.inj hv
   rw[List.getElem?_zip_eq_some] at e
   obtain⟨x1,x2⟩:=x
   cases x1 with
   |none=>exact h2 i v n (by rw[←hv];exact e.2) hn
   |some u=>exact hl.2 i v n (by rw[←hv];exact e.1) hn
theorem Nq{ds:List Nat}{b:Nat}{l:Cond}(h:opOk ds b (.refer l)=true):zT ds l:=by
 have h:(b==0&&(l.length==ds.length&&(l.zip ds).all fun x=>match x.1 with
  |some v=>decide (v<x.2)
  |none=>true))=true:=h
 rw[Bool.and_eq_true,Bool.and_eq_true,beq_iff_eq,beq_iff_eq,List.all_eq_true] at h
 refine⟨h.2.1,fun i v n hv hn=>?_⟩
 have hm:(some v,n)∈l.zip ds:=List.mem_of_getElem? (i:=i) (by rw[List.getElem?_zip_eq_some];exact⟨hv,hn⟩)
 exact of_decide_eq_true (h.2.2 _ hm)
theorem oA{s:St}(w:Wf s){k b:Nat}{c:Cell}{x:Rule×Nat}(h:s.winner k b c=some x):s.rules[x.2]?=some x.1∧x.1.block=b∧x.1.cls∈s.line k∧meets x.1.cond c=true∧zU s.dims s.classes.length x.1:=by
 obtain⟨h1,h2,h3,h4⟩:=mY.mp (Qg h)
 exact⟨h1,h2,h3,h4,w.rul x.1 (List.mem_of_getElem? h1)⟩
theorem Wh{ds:List Nat}{b:Nat}{op:Op}(h:opOk ds b op=true){f g:Bytes}(e:done f op=some g):g.length≤f.length+16:=by
 cases op with
 |behind x=>
  have e:f++x=g:=Option.some.inj e
  have h:(decide (2≤b∧b≤5)&&decide (x.length≤16))=true:=h
  rw[Bool.and_eq_true,decide_eq_true_eq,decide_eq_true_eq] at h
  rw[←e,List.length_append];omega
 |ahead x=>
  have e:x++f=g:=Option.some.inj e
  have h:(decide (2≤b∧b≤5)&&decide (x.length≤16))=true:=h
  rw[Bool.and_eq_true,decide_eq_true_eq,decide_eq_true_eq] at h
  rw[←e,List.length_append];omega
 |instead k x=>
  have e:(if f.length<k then none else some (f.take (f.length - k)++x))=some g:=e
  have h:(decide (2≤b∧b≤5)&&(decide (k≤8)&&decide (x.length≤16)))=true:=h
  rw[Bool.and_eq_true,Bool.and_eq_true,decide_eq_true_eq,decide_eq_true_eq,decide_eq_true_eq] at h
  split at e
  ·cases e
  ·have e:=Option.some.inj e
   rw[←e,List.length_append,List.length_take];omega
 |change a x=>
  have e:(match lastOf a f with
   |some i=>some (f.take i++(x++f.drop (i+1)))
   |none=>some f)=some g:=e
  have h:(decide (2≤b∧b≤5)&&(decide (a.length≤16)&&decide (x.length≤16)))=true:=h
  rw[Bool.and_eq_true,Bool.and_eq_true,decide_eq_true_eq,decide_eq_true_eq,decide_eq_true_eq] at h
  split at e
  ·have e:=Option.some.inj e
   rw[←e,List.length_append,List.length_append,List.length_take,List.length_drop];omega
  ·have e:=Option.some.inj e
   rw[←e];omega
 |twice k=>
  have e:(if f.length<k then none else some (f.take k++f))=some g:=e
  have h:(decide (2≤b∧b≤5)&&decide (k≤8))=true:=h
  rw[Bool.and_eq_true,decide_eq_true_eq,decide_eq_true_eq] at h
  split at e
  ·cases e
  ·have e:=Option.some.inj e
   rw[←e,List.length_append,List.length_take];omega
 |stem j=>have e:f=g:=Option.some.inj e;rw[e];omega
 |refer l=>have e:f=g:=Option.some.inj e;rw[e];omega
 |gap=>have e:f=g:=Option.some.inj e;rw[e];omega
def gR(s:St)(w:Word)(c:Cell)(b:Nat)(z:Bytes):Option Bytes:=match s.winner w.cls b c with
 |some x=>done z x.1.op
 |none=>some z
theorem X6(s:St)(w:Word)(c:Cell):s.made w c=((((s.stemOf w c).bind (gR s w c 2)).bind (gR s w c 3)).bind (gR s w c 4)).bind (gR s w c 5):=rfl
theorem lE{s:St}(h:Wf s){w:Word}{c:Cell}{b:Nat}{z g:Bytes}(e:gR s w c b z=some g):g.length≤z.length+16:=by
 unfold gR at e
 cases hx:s.winner w.cls b c with
 |none=>rw[hx] at e;have e:z=g:=Option.some.inj e;rw[e];omega
 |some x=>
  rw[hx] at e
  exact Wh (oA h hx).2.2.2.2.op e
theorem Iw{ts:List Bytes}(h:stemsOk ts=true){j:Nat}{b:Bytes}(e:ts[j]?=some b):b.length≤32:=by
 unfold stemsOk at h
 simp only[Bool.and_eq_true,List.all_eq_true,decide_eq_true_eq] at h
 exact h.2.2 b (List.mem_of_getElem? e)
theorem Ef{s:St}{w:Word}(hw:stemsOk w.stems=true){c:Cell}{b:Bytes}(e:s.stemOf w c=some b):b.length≤32:=by
 unfold St.stemOf at e
 split at e
 ·split at e
  ·exact Iw hw e
  ·cases e
 ·exact Iw hw e
theorem Nr{s:St}(h:Wf s){w:Word}(hw:stemsOk w.stems=true){c:Cell}{b:Bytes}(e:s.made w c=some b):b.length≤96:=by
 rw[X6] at e
 obtain⟨b4,e4,e5⟩:=Option.bind_eq_some_iff.mp e
 obtain⟨b3,e3,e4⟩:=Option.bind_eq_some_iff.mp e4
 obtain⟨b2,e2,e3⟩:=Option.bind_eq_some_iff.mp e3
 obtain⟨b1,e1,e2⟩:=Option.bind_eq_some_iff.mp e2
 have h1:=Ef hw e1
 have h2:=lE h e2
 have h3:=lE h e3
 have h4:=lE h e4
 have h5:=lE h e5
 omega
theorem RT{s:St}(h:Wf s){w:Word}(hw:stemsOk w.stems=true)(ho: ∀p∈w.odd,∀b,p.2=some b→b.length≤64): ∀{n:Nat} {c:Cell} {b:Bytes},s.gotIn w n c= .form b→b.length≤96
 |0,c,b,e=>by unfold St.gotIn at e;cases e
 |n+1,c,b,e=>by
  unfold St.gotIn at e
  split at e
  ·rename_i x hx
   split at e
   ·rename_i z hz
    injection e with e
    have:=ho x (List.mem_of_find?_eq_some hx) z hz
    rw[←e];omega
   ·cases e
  ·split at e
   ·split at e
    ·exact RT h hw ho e
    ·cases e
   ·split at e
    ·rename_i z hz
     injection e with e
     rw[←e]
     exact Nr h hw hz
    ·cases e
section
variable{s:St}(h:s.dims≠[])
include h
theorem Iz(n:Nat)(c:Cell):step s (.form n c)=(s,match s.words[n]? with
  |none=>ok (-2)
  |some x=>if isCell s.dims c=false then ok (-1) else match s.got x c with
   | .form b=>⟨1,b.map Sx03.num⟩
   | .gap=>ok 0
   | .ring=>ok 2):=if_neg h
theorem step_table(n:Nat):step s (.table n)=(s,match s.words[n]? with
  |none=>ok (-2)
  |some x=>⟨Sx03.num (s.table x).length,(s.table x).flatMap gotOut⟩):=if_neg h
theorem Nt(n:Nat)(c:Cell):step s (.why n c)=(s,match s.words[n]? with
  |none=>ok (-2)
  |some x=>if isCell s.dims c=false then ok (-1) else⟨Sx03.num (s.why x c).1,(s.why x c).2.map Sx03.num⟩):=if_neg h
theorem Eh(n:Nat):step s (.alike n)=(s,match s.words[n]? with
  |none=>ok (-2)
  |some x=>⟨Sx03.num (Sx03.alike (s.table x)).eraseDups.length,(Sx03.alike (s.table x)).map Sx03.num⟩):=if_neg h
theorem IK(b:Bytes):step s (.find b)=(s,⟨Sx03.num (s.found b).length,(s.found b).flatMap fun x=>[Sx03.num x.1,Sx03.num x.2]⟩):=if_neg h
theorem Nu(t:List Bytes)(l:List (Cell×Bytes)):step s (.may t l)=(s,if(stemsOk t&&l.all fun x=>isCell s.dims x.1)=false then ok (-1) else⟨Sx03.num (s.may t l).length,(s.may t l).map Sx03.num⟩):=if_neg h
theorem Ei(t:List Bytes):step s (.parts t)=(s,if stemsOk t=false then ok (-1) else⟨Sx03.num (s.parts t).length,(s.parts t).map Sx03.num⟩):=if_neg h
end
def lx:List Nat→List Nat→Prop
 |a::p,b::q=>a<b∨(a=b∧lx p q)
 |_,_=>False
theorem j6: ∀{k:Nat} {l p:List Nat},p∈picks k l↔List.Sublist p l∧p.length=k
 |0,l,p=>by
  unfold picks
  rw[List.mem_singleton]
  constructor
  ·rintro rfl;exact⟨List.nil_sublist l,rfl⟩
  ·rintro⟨_,h⟩;exact List.length_eq_zero_iff.mp h
 |k+1,[],p=>by
  unfold picks
  constructor
  ·intro h;cases h
  ·rintro⟨h1,h2⟩
   have:=List.sublist_nil.mp h1
   rw[this] at h2;cases h2
 |k+1,x::l,p=>by
  unfold picks
  rw[List.mem_append,List.mem_map]
  constructor
  ·rintro(⟨q,hq,rfl⟩|h)
   ·obtain⟨h1,h2⟩:=j6.mp hq
    exact⟨h1.cons₂ x,by rw[List.length_cons,h2]⟩
   ·obtain⟨h1,h2⟩:=j6.mp h
    exact⟨h1.cons x,h2⟩
  ·rintro⟨h1,h2⟩
   cases h1 with
   |cons _ h1=>exact .inr (j6.mpr ⟨h1,h2⟩)
   |cons_cons _ h1=>exact .inl ⟨_,j6.mpr ⟨h1,by simpa using h2⟩,rfl⟩
theorem qR: ∀(k:Nat) (l:List Nat),l.Pairwise (· < ·)→(picks k l).Pairwise lx
 |0,l,_=>by unfold picks;exact List.pairwise_singleton _ _
 |k+1,[],_=>by unfold picks;exact List.Pairwise.nil
 |k+1,x::l,h=>by
  unfold picks
  obtain⟨h1,h2⟩:=List.pairwise_cons.mp h
  refine List.pairwise_append.mpr ⟨?_,qR (k+1) l h2,fun p hp q hq=>?_⟩
  ·rw[List.pairwise_map]
   exact(qR k l h2).imp fun z=> .inr ⟨rfl,z⟩
  ·obtain⟨p',_,rfl⟩:=List.mem_map.mp hp
   obtain⟨s1,s2⟩:=j6.mp hq
   cases q with
   |nil=>cases s2
   |cons y q=>exact .inl (h1 y (s1.subset List.mem_cons_self))
theorem Qi{L:List (List Nat)}{f:List Nat→Bool}{p:List Nat}(hs:L.Pairwise lx)(hp:p∈L)(hf:f p=true)(hn: ∀q∈L,lx q p→f q=false):L.find? f=some p:=by
 obtain⟨a,b,rfl⟩:=List.append_of_mem hp
 rw[List.find?_append]
 have e:a.find? f=none:=by
  rw[List.find?_eq_none]
  intro q hq
  have:=(List.pairwise_append.mp hs).2.2 q hq p List.mem_cons_self
  rw[hn q (List.mem_append_left _ hq) this]
  decide
 rw[e,List.find?_cons,hf]
 rfl
structure Pick(n:Nat)(p:List Nat):Prop where
 up:p.Pairwise (· < ·)
 lt: ∀x∈p,x<n
theorem Ej: ∀(m a:Nat) (p:List Nat),p.Pairwise (· < ·)→(∀x∈p,a≤x∧x<a+m)→List.Sublist p (List.range' a m)
 |0,a,[],_,_=>List.nil_sublist _
 |0,a,x::p,_,h=>by have:=h x List.mem_cons_self;omega
 |m+1,a,[],_,_=>List.nil_sublist _
 |m+1,a,x::p,hp,h=>by
  rw[List.range'_succ]
  obtain⟨h1,h2⟩:=List.pairwise_cons.mp hp
  have hx:=h x List.mem_cons_self
  by_cases e:x=a
  ·subst e
   exact(Ej m (x+1) p h2 fun y hy=>by
    have:=h1 y hy
    have:=h y (List.mem_cons_of_mem _ hy)
    omega).cons₂ x
  ·refine(Ej m (a+1) (x::p) hp fun y hy=>?_).cons a
   rcases List.mem_cons.mp hy with rfl|hy
   ·omega
   ·have:=h1 y hy
    have:=h y (List.mem_cons_of_mem _ hy)
    omega
theorem yu(n:Nat):(List.range n).Pairwise (· < ·):=List.pairwise_lt_range
theorem yw{n k:Nat}{p:List Nat}:p∈picks k (List.range n)↔Pick n p∧p.length=k:=by
 rw[j6]
 constructor
 ·rintro⟨h1,h2⟩
  exact⟨⟨(yu n).sublist h1,fun x hx=>List.mem_range.mp (h1.subset hx)⟩,h2⟩
 ·rintro⟨h1,h2⟩
  refine⟨?_,h2⟩
  rw[List.range_eq_range']
  exact Ej n 0 p h1.up fun x hx=>⟨Nat.zero_le _,by have:=h1.lt x hx;omega⟩
theorem Wi{s:St}{ts:List Bytes}{r:List Nat}(hr:Pick (cells s.dims).length r)
  (h1:tells ((List.range s.classes.length).map fun k=>s.table ⟨k,ts,[]⟩) r=true)
  (h2: ∀q,Pick (cells s.dims).length q→q.length<r.length→tells ((List.range s.classes.length).map fun k=>s.table ⟨k,ts,[]⟩) q=false)
  (h3: ∀q,Pick (cells s.dims).length q→q.length=r.length→lx q r→tells ((List.range s.classes.length).map fun k=>s.table ⟨k,ts,[]⟩) q=false):s.parts ts=r:=by
 have hl:r.length≤(cells s.dims).length:=by
  have:=(j6.mp (yw.mpr ⟨hr,rfl⟩)).1.length_le
  rw[List.length_range] at this
  exact this
 have e: ∀k,k<r.length→(picks k (List.range (cells s.dims).length)).find? (tells ((List.range s.classes.length).map fun k=>s.table ⟨k,ts,[]⟩))=none:=fun k hk=>by
  rw[List.find?_eq_none]
  intro q hq
  obtain⟨a,b⟩:=yw.mp hq
  rw[h2 q a (by omega)]
  decide
 have e2:(picks r.length (List.range (cells s.dims).length)).find? (tells ((List.range s.classes.length).map fun k=>s.table ⟨k,ts,[]⟩))=some r:=by
  refine Qi (qR _ _ (yu _)) (yw.mpr ⟨hr,rfl⟩) h1 fun q hq hlx=>?_
  obtain⟨a,b⟩:=yw.mp hq
  exact h3 q a b hlx
 have e3:(List.range ((cells s.dims).length+1)).findSome? (fun k=>(picks k (List.range (cells s.dims).length)).find? (tells ((List.range s.classes.length).map fun k=>s.table ⟨k,ts,[]⟩)))=some r:=by
  have sp:List.range ((cells s.dims).length+1)=List.range r.length++List.range' r.length ((cells s.dims).length+1 - r.length):=by
   have z:=List.range'_append (s:=0) (m:=r.length) (n:=(cells s.dims).length+1 - r.length) (step:=1)
   rw[show 0+1 * r.length=r.length by omega] at z
   rw[List.range_eq_range',List.range_eq_range',z]
   congr 1
   omega
  have c:List.range' r.length ((cells s.dims).length+1 - r.length)=r.length::List.range' (r.length+1) ((cells s.dims).length - r.length):=by
   rw[show(cells s.dims).length+1 - r.length=((cells s.dims).length - r.length)+1 by omega,List.range'_succ]
  rw[sp,List.findSome?_append,c,List.findSome?_cons,e2]
  have n:(List.range r.length).findSome? (fun k=>(picks k (List.range (cells s.dims).length)).find? (tells ((List.range s.classes.length).map fun k=>s.table ⟨k,ts,[]⟩)))=none:=by
   rw[List.findSome?_eq_none_iff]
   exact fun k hk=>e k (List.mem_range.mp hk)
  rw[n]
  rfl
 unfold St.parts
 show((List.range ((cells s.dims).length+1)).findSome? _).getD []=r
 rw[e3]
 rfl
theorem Ua{s:St}{ts:List Bytes}:tells ((List.range s.classes.length).map fun k=>s.table ⟨k,ts,[]⟩) (List.range (cells s.dims).length)=true:=by
 unfold tells
 rw[List.all_eq_true]
 intro a ha
 rw[List.all_eq_true]
 intro b hb
 obtain⟨i,_,rfl⟩:=List.mem_map.mp ha
 obtain⟨j,_,rfl⟩:=List.mem_map.mp hb
 rw[Bool.or_eq_true]
 by_cases e:s.table ⟨i,ts,[]⟩=s.table ⟨j,ts,[]⟩
 ·exact .inl (by rw[e];exact beq_self_eq_true _)
 ·refine .inr ?_
  rw[List.any_eq_true]
  by_cases q: ∃k,k<(cells s.dims).length∧(s.table ⟨i,ts,[]⟩).getD k .gap≠(s.table ⟨j,ts,[]⟩).getD k .gap
  ·obtain⟨k,h1,h2⟩:=q
   exact⟨k,List.mem_range.mpr h1,by simpa [bne] using h2⟩
  ·refine absurd (List.ext_getElem (by unfold St.table;simp) fun k h1 h2=>?_) e
   have hk:k<(cells s.dims).length:=by
    unfold St.table at h1
    rw[List.length_map] at h1
    exact h1
   have z:(s.table ⟨i,ts,[]⟩).getD k .gap=(s.table ⟨j,ts,[]⟩).getD k .gap:=by
    by_cases y:(s.table ⟨i,ts,[]⟩).getD k .gap=(s.table ⟨j,ts,[]⟩).getD k .gap
    ·exact y
    ·exact absurd ⟨k,hk,y⟩ q
   rw[List.getD_eq_getElem?_getD,List.getD_eq_getElem?_getD,List.getElem?_eq_getElem h1,List.getElem?_eq_getElem h2] at z
   exact z
theorem IV(l:List Nat)(b:Nat):(l++[b]).eraseDups.length=l.eraseDups.length+if b∈l then 0 else 1:=by
 rw[List.eraseDups_append]
 by_cases h:b∈l
 ·have e:[b].removeAll l=[]:=by simp[List.removeAll,h]
  rw[e,if_pos h]
  simp
 ·have e:[b].removeAll l=[b]:=by simp[List.removeAll,h]
  rw[e,if_neg h,List.length_append]
  rfl
theorem Wj{l:List Got}{i:Nat}{g:Got}(h:l[i]?=some g):l.idxOf g≤i∧l[l.idxOf g]?=some g:=by
 have hi:=(List.getElem?_eq_some_iff.mp h).1
 have hg:g∈l:=List.mem_of_getElem? h
 have hl:=List.idxOf_lt_length_of_mem hg
 have e:l[l.idxOf g]?=some g:=by rw[List.getElem?_eq_getElem hl,List.getElem_idxOf hl]
 refine⟨?_,e⟩
 by_cases q:l.idxOf g≤i
 ·exact q
 ·exfalso
  have:l[i]=g:=(List.getElem?_eq_some_iff.mp h).2
  have z:=List.not_of_lt_findIdx (p:=fun x=>x==g) (xs:=l) (i:=i) (by show i<l.idxOf g;omega)
  simp[this] at z
def grow(cs:List Cell)(n:Nat):List Cell:=cs.flatMap fun c=>(List.range n).map fun v=>c++[v]
theorem Nv: ∀(ds:List Nat) (cs:List Cell),ds.foldl grow cs=cs.flatMap fun c=>(cells ds).map fun d=>c++d
 |[],cs=>by
  show cs=cs.flatMap fun c=>[c++[]]
  simp
 |n::r,cs=>by
  rw[List.foldl_cons,Nv r,show cells (n::r)=(List.range n).flatMap (fun i=>(cells r).map fun c=>i::c) from rfl]
  unfold grow
  rw[List.flatMap_assoc]
  refine congrArg (fun g=>List.flatMap g cs) (funext fun c=>?_)
  rw[List.flatMap_map,List.map_flatMap]
  refine congrArg (fun g=>List.flatMap g (List.range n)) (funext fun v=>?_)
  rw[List.map_map]
  refine List.map_congr_left fun d _=>?_
  show(c++[v])++d=c++(v::d)
  rw[List.append_assoc]
  rfl
theorem wO(ds:List Nat):ds.foldl grow [[]]=cells ds:=by
 rw[Nv]
 simp
theorem Ny(cs:List Cell)(n:Nat):(grow cs n).length=cs.length * n:=by
 unfold grow
 rw[DY _ n cs fun c _=>by rw[List.length_map,List.length_range]]
theorem X7: ∀(ds:List Nat) (i:Nat),(∀n∈ds,n≤8)→((ds.take i).foldl grow [[]]).length≤8 ^ i:=by
 intro ds i h
 rw[wO,fW]
 induction ds generalizing i with
 |nil=>simp[product];exact Nat.pos_of_ne_zero (by simp)
 |cons n r ih=>
  cases i with
  |zero=>simp[product]
  |succ i=>
   rw[List.take_succ_cons,mH,Nat.pow_succ,Nat.mul_comm]
   exact Nat.mul_le_mul (ih i fun m hm=>h m (List.mem_cons_of_mem _ hm)) (h n List.mem_cons_self)
theorem Ek{α:Type}{l:List α}{i:Nat}{x:α}(h:l[i]?=some x):l.zipIdx[i]?=some (x,i):=by
 rw[List.getElem?_zipIdx,h]
 simp
def lZ(ds:List Nat)(l:Cond)(i:Nat):List Nat:=(((cells ds).zipIdx.take i).filter fun x=>meets l x.1).map (·.2)
def wA(ds:List Nat)(l:Cond):List Nat:=lZ ds l (cells ds).length
theorem Qj{ds:List Nat}{l:Cond}{i:Nat}{c:Cell}(h:(cells ds)[i]?=some c):lZ ds l (i+1)=if meets l c=true then lZ ds l i++[i] else lZ ds l i:=by
 unfold lZ
 rw[List.take_succ,Ek h]
 show((_++[(c,i)]).filter _).map _=_
 rw[List.filter_append,List.map_append,List.filter_cons]
 by_cases q:meets l c=true
 ·rw[if_pos q,if_pos q]
  rfl
 ·rw[if_neg q,if_neg q]
  simp
theorem Ub(ds:List Nat)(l:Cond): ∀i,(lZ ds l i).length≤i:=by
 intro i
 unfold lZ
 rw[List.length_map]
 refine Nat.le_trans (List.length_filter_le _ _) ?_
 rw[List.length_take]
 omega
theorem Uc{ds:List Nat}{l:Cond}{i j:Nat}:j∈lZ ds l i↔j<i∧∃c,(cells ds)[j]?=some c∧meets l c=true:=by
 unfold lZ
 rw[List.mem_map]
 constructor
 ·rintro⟨x,hx,rfl⟩
  obtain⟨h1,h2⟩:=List.mem_filter.mp hx
  obtain⟨k,hk⟩:=List.mem_iff_getElem?.mp h1
  have hki:k<i:=by
   have:=(List.getElem?_eq_some_iff.mp hk).1
   rw[List.length_take] at this
   omega
  rw[List.getElem?_take_of_lt hki,List.getElem?_zipIdx] at hk
  cases e:(cells ds)[k]? with
  |none=>rw[e] at hk;cases hk
  |some c=>
   rw[e] at hk
   have hk:(c,0+k)=x:=Option.some.inj hk
   subst hk
   refine⟨by show 0+k<i;omega,c,by show(cells ds)[0+k]?=_;rw[Nat.zero_add];exact e,h2⟩
 ·rintro⟨hi,c,hc,hm⟩
  refine⟨(c,j),List.mem_filter.mpr ⟨List.mem_iff_getElem?.mpr ⟨j,?_⟩,hm⟩,rfl⟩
  rw[List.getElem?_take_of_lt hi]
  exact Ek hc
theorem zV{ds:List Nat}{l:Cond}{j:Nat}:j∈wA ds l↔∃c,(cells ds)[j]?=some c∧meets l c=true:=by
 unfold wA
 rw[Uc]
 constructor
 ·exact fun h=>h.2
 ·rintro⟨c,hc,hm⟩
  exact⟨(List.getElem?_eq_some_iff.mp hc).1,c,hc,hm⟩
def IW(s:St)(b:Nat)(c:Cell)(i:Nat):Bool:=match s.rules[i]? with
 |some r=>r.block==b&&meets r.cond c
 |none=>false
def lastStep(s:St)(b:Nat)(c:Cell)(a:Option Nat)(i:Nat):Option Nat:=if IW s b c i=true then some i else a
def mj(s:St)(b:Nat)(c:Cell)(L:List Nat):Option Nat:=L.foldl (lastStep s b c) none
structure Weak(s:St)(k:Nat)(L:List Nat):Prop where
 mem: ∀i,i∈L↔∃r,s.rules[i]?=some r∧r.cls∈s.line k
 up:L.Pairwise fun i j=>∀ri rj,s.rules[i]?=some ri→s.rules[j]?=some rj→jy (s.line k) (rj,j) (ri,i)
theorem Ja{p:Nat→Bool}: ∀(L:List Nat) (a:Option Nat),(L.foldl (fun a i=>if p i=true then some i else a) a=a∧∀x∈L,p x=false)∨
  ∃A i B,L=A++i::B∧p i=true∧(∀x∈B,p x=false)∧L.foldl (fun a i=>if p i=true then some i else a) a=some i
 |[],a=> .inl ⟨rfl,fun x h=>by cases h⟩
 |x::L,a=>by
  rcases Ja L (if p x=true then some x else a) with⟨h1,h2⟩|⟨A,i,B,h1,h2,h3,h4⟩
  ·by_cases q:p x=true
   ·refine .inr ⟨[],x,L,rfl,q,h2,?_⟩
    rw[List.foldl_cons,h1,if_pos q]
   ·refine .inl ⟨by rw[List.foldl_cons,h1,if_neg q],fun y hy=>?_⟩
    rcases List.mem_cons.mp hy with rfl|hy
    ·simpa using q
    ·exact h2 y hy
  ·exact .inr ⟨x::A,i,B,by rw[h1];rfl,h2,h3,by rw[List.foldl_cons];exact h4⟩
theorem JW{s:St}{k b:Nat}{c:Cell}{L:List Nat}(h:Weak s k L):mj s b c L=(s.winner k b c).map (·.2):=by
 have of: ∀{y:Rule×Nat},y∈s.able k b c→y.2∈L∧IW s b c y.2=true:=fun{y} hy=>by
  obtain⟨h1,h2,h3,h4⟩:=mY.mp hy
  refine⟨(h.mem y.2).mpr ⟨y.1,h1,h3⟩,?_⟩
  unfold IW
  rw[h1]
  show(y.1.block==b&&meets y.1.cond c)=true
  rw[h2,h4]
  simp
 rcases Ja (p:=IW s b c) L none with⟨h1,h2⟩|⟨A,i,B,h1,h2,h3,h4⟩
 ·have e:s.able k b c=[]:=by
   cases q:s.able k b c with
   |nil=>rfl
   |cons y r=>
    obtain⟨z1,z2⟩:=of (y:=y) (by rw[q];exact List.mem_cons_self)
    rw[h2 _ z1] at z2
    cases z2
  rw[Np e]
  exact h1
 ·have hiL:i∈L:=by rw[h1];simp
  obtain⟨r,hr,hc⟩:=(h.mem i).mp hiL
  have hab:(r,i)∈s.able k b c:=by
   unfold IW at h2
   rw[hr] at h2
   have h2:(r.block==b&&meets r.cond c)=true:=h2
   rw[Bool.and_eq_true,beq_iff_eq] at h2
   exact mY.mpr ⟨hr,h2.1,hc,h2.2⟩
  have w:s.winner k b c=some (r,i):=TV hab fun y hy=>by
   obtain⟨z1,z2⟩:=of hy
   obtain⟨y1,y2⟩:=mY.mp hy
   by_cases e:y.2=i
   ·rw[e,hr] at y1
    exact .inl (Prod.ext (Option.some.inj y1).symm e)
   ·rw[h1] at z1
    rcases List.mem_append.mp z1 with z|z
    ·have up:=h.up
     rw[h1] at up
     exact .inr ((List.pairwise_append.mp up).2.2 y.2 z i List.mem_cons_self y.1 r y1 hr)
    ·rcases List.mem_cons.mp z with z|z
     ·exact absurd z e
     ·rw[h3 _ z] at z2
      cases z2
  rw[w]
  exact h4
def lt2(x y:Int×Int):Prop:=x.1<y.1∨(x.1=y.1∧x.2<y.2)
theorem Jb{g:Int→Int×Int}: ∀{ys:List Int},ys.Pairwise (fun x y=>¬lt2 (g y) (g x))→(∀c,(ys.filter fun x=>g x==c).Pairwise (· < ·))→ys.Pairwise fun x y=>lt2 (g x) (g y)∨(g x=g y∧x<y)
 |[],_,_=>List.Pairwise.nil
 |y::ys,h,hs=>by
  obtain⟨h1,h2⟩:=List.pairwise_cons.mp h
  refine List.pairwise_cons.mpr ⟨fun z hz=>?_,Jb h2 fun c=>?_⟩
  ·by_cases e:g y=g z
   ·refine .inr ⟨e,?_⟩
    have q:=hs (g y)
    rw[List.filter_cons,if_pos (by simp)] at q
    exact(List.pairwise_cons.mp q).1 z (List.mem_filter.mpr ⟨hz,by simp[e]⟩)
   ·refine .inl ?_
    have q:=h1 z hz
    unfold lt2 at q⊢
    by_cases e1:(g y).1=(g z).1
    ·by_cases e2:(g y).2=(g z).2
     ·exact absurd (Prod.ext e1 e2) e
     ·omega
    ·omega
  ·have q:=hs c
   rw[List.filter_cons] at q
   split at q
   ·exact(List.pairwise_cons.mp q).2
   ·exact q
end Fs
namespace L2
open PySem PySem.Spec PyProof.Rows
section
variable{X:Cx}{pins:List (Addr×Obj)}{σ:St}{H:Hp}{s:Shared}
theorem Inv.YW{a b:Addr}{ao bo bo':Obj}{h':Heap}{tk:Nat}{l:List (Addr×Obj)}(J:Inv X l σ H s)(hb:(b,bo)∈l)(hs0:X.s_0.heap.objs.size≤b)(hn: ∀p∈X.pn,p.1≠b)
  (hs:Heap.SameBut b s.heap h') (hb':h'.get? b=some bo') (hd: ∀v,bo'.data≠ .cell v) (l':List (Addr×Obj)) (hl: ∀p∈l',p=(b,bo')∨(p∈l∧p.1≠b)):Inv X l' σ H {s with heap:=h',toks:=tk}:=by
 have pk:=J.pin (b,bo) (List.mem_append_right _ hb)
 have J0:Inv X (l.filter fun p=>decide (p.1≠b)) σ H s:=J.qK fun p hp=>J.pin p (List.mem_append_right _ (List.mem_filter.mp hp).1)
 have J1:Inv X (l.filter fun p=>decide (p.1≠b)) σ H {s with heap:=h',toks:=tk}:=by
  refine J0.turned (it:=b) (fun d o n e=>(hs.2 d n).trans e) pk.2.1 pk.2.2.1 (.inr hs0) (fun x c e z=>?_) fun p hp=>?_
  ·obtain⟨v,o,ho,hd'⟩:=J.cell x c e
   rw[z] at ho
   rw[show s.heap.get? b=some bo from pk.1] at ho
   cases ho
   exact pk.2.2.2.2 v hd'
  ·rcases List.mem_append.mp hp with hp|hp
   ·exact hn p hp
   ·exact of_decide_eq_true (List.mem_filter.mp hp).2
 refine J1.qK fun p hp=>?_
 rcases hl p hp with rfl|⟨h1,h2⟩
 ·exact⟨hb',pk.2.1,pk.2.2.1,pk.2.2.2.1,hd⟩
 ·exact J1.pin p (List.mem_append_right _ (List.mem_filter.mpr ⟨h1,decide_eq_true h2⟩))
abbrev lF(x:Int×Int):List (Int ⊕ List Nat):=[Sum.inl x.1,Sum.inl x.2]
instance(x y:Int×Int):Decidable (Fs.lt2 x y):=by unfold Fs.lt2;infer_instance
theorem El(x y:Int×Int):PyProof.Rows.lexLt itemOrd (lF x) (lF y)=decide (Fs.lt2 x y):=by
 obtain⟨a,b⟩:=x
 obtain⟨c,d⟩:=y
 show(decide (a<c)||(!decide (c<a)&&(decide (b<d)||(!decide (d<b)&&false))))=_
 have e:decide (Fs.lt2 (a,b) (c,d))=decide (a<c∨(a=c∧b<d)):=decide_eq_decide.mpr Iff.rfl
 rw[e]
 by_cases h1:a<c
 ·rw[decide_eq_true h1,decide_eq_true (show a<c∨(a=c∧b<d) from .inl h1)]
  rfl
 ·by_cases h2:c<a
  ·rw[decide_eq_false h1,decide_eq_true h2,decide_eq_false (show¬(a<c∨(a=c∧b<d)) by omega)]
   rfl
  ·have h3:a=c:=by omega
   by_cases h4:b<d
   ·rw[decide_eq_false h1,decide_eq_false h2,decide_eq_true h4,decide_eq_true (show a<c∨(a=c∧b<d) by omega)]
    rfl
   ·rw[decide_eq_false h1,decide_eq_false h2,decide_eq_false h4,decide_eq_false (show¬(a<c∨(a=c∧b<d)) by omega),Bool.and_false]
    rfl
theorem RV{P:Program}{w:World}{H:Hp}{h:Heap}{T:Addr}{a b:Int}(hok:HOk P w H h)(e:H T=some (.tup [.int a,.int b])):
  G.tupKeyC h (fun _=>false) (.ref T)=some (lF (a,b))∧∃f,TupOf h (fun _=>false) (.ref T) f:=by
 obtain⟨_,its,rv,o,ho,hc,n,hd⟩:=(show fP P w H h T (.tup [.int a,.int b]) from hok T _ e)
 cases rv with
 |cons r1 rv=>
  cases rv with
  |cons r2 rv=>
   cases rv
   obtain⟨t1,rfl⟩:=r1
   obtain⟨t2,rfl⟩:=r2
   refine⟨?_,.int a t1,T,o,_,n,rfl,ho,hc,hd,by simp,fun _=>⟨a,t1,rfl⟩,fun z=>nomatch z⟩
   unfold G.tupKeyC
   have e1:G.isTupObj h (.ref T)=true:=by simp[G.isTupObj,ho,hc]
   rw[if_pos e1]
   simp[tupKey,ho,hd,tupItems,lF]
structure Keys(H':Hp)(g:Int→Int×Int)(ns:List Int)(kA:List Value):Prop where
 len:kA.length=ns.length
 at_: ∀(j:Nat) (n:Int),ns[j]?=some n→∃T,kA[j]?=some (.ref T)∧H' T=some (.tup [.int (g n).1,.int (g n).2])
theorem Keys.same{H' H'':Hp}{g:Int→Int×Int}{ns:List Int}{kA:List Value}(h:Keys H' g ns kA)(k:Same H' H''):Keys H'' g ns kA:=
 ⟨h.len,fun j n e=>let ⟨T,h1,h2⟩:=h.at_ j n e;⟨T,h1,k _ _ h2⟩⟩
theorem Keys.snoc{H':Hp}{g:Int→Int×Int}{ns:List Int}{kA:List Value}(h:Keys H' g ns kA){n:Int}{T:Addr}(e:H' T=some (.tup [.int (g n).1,.int (g n).2])):Keys H' g (ns++[n]) (kA++[.ref T]):=by
 refine⟨by rw[List.length_append,List.length_append,h.len];rfl,fun j m hm=>?_⟩
 by_cases q:j<ns.length
 ·rw[List.getElem?_append_left q] at hm
  rw[List.getElem?_append_left (by rw[h.len];exact q)]
  exact h.at_ j m hm
 ·rw[List.getElem?_append_right (by omega)] at hm
  have e0:j - ns.length=0:=by
   have:=(List.getElem?_eq_some_iff.mp hm).1
   simp at this
   omega
  rw[e0] at hm
  cases hm
  refine⟨T,?_,e⟩
  rw[List.getElem?_append_right (by rw[h.len];omega),h.len,e0]
  rfl
theorem Keys.mem{H':Hp}{g:Int→Int×Int}{ns:List Int}{keys:Array Value}{vs:List Value}(h:Keys H' g ns keys.toList)(hi:IntsAre vs ns){P:Program}{w:World}{hp:Heap}(hok:HOk P w H' hp):
  ∀p,p∈(keys.zip vs.toArray).toList→(∃t,p.2= .int (numOf p.2) t)∧numOf p.2∈ns∧G.tupKeyC hp (fun _=>false) p.1=some (lF (g (numOf p.2))):=by
 intro p hp'
 rw[ksk_zip] at hp'
 obtain⟨j,hj⟩:=List.mem_iff_getElem?.mp hp'
 rw[List.getElem?_zip_eq_some] at hj
 have hjl:j<ns.length:=by
  have:=(List.getElem?_eq_some_iff.mp hj.1).1
  rw[h.len] at this
  exact this
 obtain⟨t,ht⟩:=hi.get j _ (List.getElem?_eq_getElem hjl)
 obtain⟨T,h1,h2⟩:=h.at_ j _ (List.getElem?_eq_getElem hjl)
 rw[hj.1] at h1
 rw[hj.2] at ht
 have e1:=Option.some.inj h1
 have e2:=Option.some.inj ht
 have en:numOf p.2=ns[j]:=by rw[e2];rfl
 refine⟨⟨t,by rw[en];exact e2⟩,by rw[en];exact List.getElem_mem hjl,?_⟩
 rw[e1,en]
 exact(RV hok h2).1
theorem Wk{H':Hp}{g:Int→Int×Int}{ns:List Int}{keys:Array Value}{vs:List Value}(h:Keys H' g ns keys.toList)(hi:IntsAre vs ns){P:Program}{w:World}{hp:Heap}(hok:HOk P w H' hp){xs:Array Keyed}
  (hpm:xs.Perm (keys.zip vs.toArray)) (hs:SortedToK (G.tupKindC hp fun _=>false) xs xs.size) (hst:Stable (G.tupKindC hp fun _=>false) xs (keys.zip vs.toArray)):
  ∃ns':List Int,IntsAre (xs.map (·.2)).toList ns'∧ns'.Perm ns∧ns'.Pairwise (fun x y=>¬Fs.lt2 (g y) (g x))∧∀c,ns'.filter (fun x=>g x==c)=ns.filter (fun x=>g x==c):=by
 have km:=h.mem hi hok
 have hpl:=Array.perm_iff_toList_perm.mp hpm
 have kx: ∀p,p∈xs.toList→(∃t,p.2= .int (numOf p.2) t)∧numOf p.2∈ns∧G.tupKeyC hp (fun _=>false) p.1=some (lF (g (numOf p.2))):=fun p hp'=>km p (hpl.mem_iff.mp hp')
 have hlen:=hi.length
 have hz:((keys.zip vs.toArray).toList.map (·.2)).map numOf=ns:=by
  rw[ksk_zip,List.map_snd_zip (by have:=h.len;omega),hi.nums]
 refine⟨(xs.toList.map (·.2)).map numOf,?_,?_,?_,fun c=>?_⟩
 ·rw[Array.toList_map]
  refine intsAre_map _ fun v hv=>?_
  obtain⟨p,hp',rfl⟩:=List.mem_map.mp hv
  obtain⟨⟨t,e⟩,_⟩:=kx p hp'
  exact⟨_,t,e⟩
 ·have z:=(hpl.map (·.2)).map numOf
  rw[hz] at z
  exact z
 ·have z:=keyLe_of_sorted (κ:=G.tupKindC hp fun _=>false) (fun p hp'=>⟨_,(kx p hp').2.2⟩) hs
  rw[List.pairwise_map,List.pairwise_map]
  refine z.imp_of_mem fun{p q} hp' hq' hr=>?_
  obtain⟨a,b,ha,hb,hab⟩:=hr
  have ha:G.tupKeyC hp (fun _=>false) p.1=some a:=ha
  have hb:G.tupKeyC hp (fun _=>false) q.1=some b:=hb
  rw[(kx p hp').2.2] at ha
  rw[(kx q hq').2.2] at hb
  obtain rfl:=Option.some.inj ha
  obtain rfl:=Option.some.inj hb
  have hab:PyProof.Rows.lexLt itemOrd (lF (g (numOf q.2))) (lF (g (numOf p.2)))=false:=hab
  rw[El] at hab
  exact of_decide_eq_false hab
 ·have fl: ∀l:List Keyed,(∀p,p∈l→G.tupKeyC hp (fun _=>false) p.1=some (lF (g (numOf p.2))))→((l.map (·.2)).map numOf).filter (fun x=>g x==c)=((rowOf (G.tupKindC hp fun _=>false) (lF c) l).map (·.2)).map numOf:=by
   intro l hl
   rw[List.map_map,List.filter_map,List.map_map]
   congr 1
   refine List.filter_congr fun p hp'=>?_
   show(g (numOf p.2)==c)=sameKey (G.tupKindC hp fun _=>false) (lF c) p
   unfold sameKey
   have e:(G.tupKindC hp fun _=>false).keyOf p.1=some (lF (g (numOf p.2))):=hl p hp'
   rw[e]
   show(g (numOf p.2)==c)=(!PyProof.Rows.lexLt itemOrd (lF (g (numOf p.2))) (lF c)&& !PyProof.Rows.lexLt itemOrd (lF c) (lF (g (numOf p.2))))
   rw[El,El]
   by_cases e3:g (numOf p.2)=c
   ·rw[e3,beq_self_eq_true,decide_eq_false (show¬Fs.lt2 c c from fun z=>by
     rcases z with z|⟨_,z⟩
     ·exact absurd z (by omega)
     ·exact absurd z (by omega))]
    rfl
   ·rw[show(g (numOf p.2)==c)=false from beq_eq_false_iff_ne.mpr e3]
    by_cases l1:Fs.lt2 (g (numOf p.2)) c
    ·rw[decide_eq_true l1]
     rfl
    ·by_cases l2:Fs.lt2 c (g (numOf p.2))
     ·rw[decide_eq_true l2,Bool.not_true,Bool.and_false]
     ·refine absurd (Prod.ext ?_ ?_) e3
      ·unfold Fs.lt2 at l1 l2
       omega
      ·unfold Fs.lt2 at l1 l2
       omega
  rw[fl _ fun p hp'=>(kx p hp').2.2,hst (lF c),←fl _ fun p hp'=>(km p hp').2.2,hz]
theorem Inv.track{a:Addr}{ao:Obj}{u:HO}{h':Heap}{tk:Nat}{l l':List (Addr×Obj)}(J:Inv X l σ H s)(hb:(a,ao)∈l)(hs0:X.s_0.heap.objs.size≤a)(hn: ∀p∈X.pn,p.1≠a)
  (hs:Heap.SameBut a s.heap h') (hthere: ∃o,h'.get? a=some o) (new:fP X.prog X.w (upd H a u) h' a u) (hl: ∀p∈l',p∈l∧p.1≠a):Inv X l' σ (upd H a u) {s with heap:=h',toks:=tk}:=by
 have pk:=J.pin (a,ao) (List.mem_append_right _ hb)
 have hna:H a=none:=pk.2.1
 have J0:Inv X l' σ H s:=J.qK fun p hp=>J.pin p (List.mem_append_right _ (hl p hp).1)
 have k: ∀b o,b≠a→s.heap.get? b=some o→h'.get? b=some o:=fun b o n e=>(hs.2 b n).trans e
 refine J0.step (g':=s.gens) (d':=s.drawn) (ch:=[a]) (fun b hb=>?_) (fun b o _ _ hc e _=>k b o (fun z=>hc (by simp[z])) e) (fun b o _ _ hc e _=>⟨o.slots,k b o (fun z=>hc (by simp[z])) e⟩) (fun b o hc e n=>?_)
  (fun b o hc e=>⟨o,k b o (fun z=>hc (by simp[z])) e⟩) (fun b xs e=>?_) (fun b o v e=>?_) (fun b ps e=>⟨#[],?_⟩) (fun m hm=>?_) (fun b v e=>?_) J0.bare
 ·have e:b=a:=by simpa using hb
  subst e
  refine⟨.inr hs0,pk.2.2.1,fun x c e z=>?_,fun p hp=>?_⟩
  ·obtain⟨v,o,ho,hd'⟩:=J.cell x c e
   rw[z,show s.heap.get? b=some ao from pk.1] at ho
   cases ho
   exact pk.2.2.2.2 v hd'
  ·rcases List.mem_append.mp hp with hp|hp
   ·exact hn p hp
   ·exact(hl p hp).2
 ·rw[aJ (fun z=>hc (by simp[z]))];exact n
 ·rw[aJ (aG e hna)];exact e
 ·rw[aJ (aG e hna)];exact e
 ·rw[aJ (aG e hna),e];simp
 ·obtain⟨o,es,ep,ho,r⟩:=hm
  exact⟨o,es,ep,k _ o (Ne.symm pk.2.2.1) ho,r⟩
 ·by_cases q:b=a
  ·subst q
   rw[aA] at e
   cases e
   exact new
  ·rw[aJ q] at e
   refine(J.hok b v e).stay (fun c w hc z=>k c w ?_ z) (fun c z=>?_) fun c xs z=>?_
   ·rcases hc with rfl|hc
    ·exact q
    ·exact aG hc hna
   ·rw[aJ (aG z hna)];exact z
   ·rw[aJ (aG z hna)];exact z
structure Priv(X:Cx)(pins:List (Addr×Obj))(kS a:Addr):Prop where
 k0:X.s_0.heap.objs.size≤kS
 a0:X.s_0.heap.objs.size≤a
 kp: ∀p∈X.pn++pins,p.1≠kS
 ap: ∀p∈X.pn++pins,p.1≠a
 ka:kS≠a
theorem Wm{A:Around}{E:Value→Shared→Prop}{kS a:Addr}{keys:Array Value}{e e1:Nat}{its:List Value}{ns:List Int}{g:Int→Int×Int}{P:PySem.Fin→Shared→Prop}{st:SortSt}
  (J:Inv X (pins++[(kS,seqObj "list" keys e),(a,seqObj "list" #[] e1)]) σ H s) (PV:Priv X pins kS a) (hi:IntsAre its ns) (hlen:ns.length≤1000) (hk:Keys H g ns keys.toList)
  (hpm:(arrOf st).Perm (keys.zip its.toArray)) (hs:SortedToK (G.tupKindC s.heap fun _=>false) (arrOf st) (arrOf st).size) (hst:Stable (G.tupKindC s.heap fun _=>false) (arrOf st) (keys.zip its.toArray)) (hfl:failedOf st=none)
  (h: ∀(ns':List Int) (s':Shared),Inv X pins σ (upd H a (.lst (ns'.map V.int))) s'→ns'.Perm ns→ns'.Pairwise (fun x y=>¬Fs.lt2 (g y) (g x))→(∀c,ns'.filter (fun x=>g x==c)=ns.filter (fun x=>g x==c))→H a=none→P (.done (.ret .none)) s'):
  wpAny (model X.prog X.w) A (ksk_tail a false e1 (.ref kS) st) P E s:=by
 obtain⟨ns',o1,o2,o3,o4⟩:=Wk hk hi J.hok hpm hs hst
 have nk:=J.pin (kS,seqObj "list" keys e) (List.mem_append_right _ (List.mem_append_right _ (.head _)))
 have na:=J.pin (a,seqObj "list" #[] e1) (List.mem_append_right _ (List.mem_append_right _ (.tail _ (.head _))))
 have s1:=Heap.SameBut.update s.heap kS (Obj.mapSeq fun _=>(#[]:Array Value))
 obtain⟨c1,hc1⟩: ∃c1,(s.heap.update kS (Obj.mapSeq fun _=>(#[]:Array Value))).get? kS=some (seqObj "list" #[] c1):=⟨_,get?_update_seq nk.1 fun _=> #[]⟩
 have na1:(s.heap.update kS (Obj.mapSeq fun _=>(#[]:Array Value))).get? a=some (seqObj "list" #[] e1):=(s1.2 a PV.ka.symm).trans na.1
 have s2:=Heap.SameBut.update (s.heap.update kS (Obj.mapSeq fun _=>(#[]:Array Value))) a (Obj.mapSeq fun _=>(arrOf st).map (·.2))
 obtain⟨c2,hc2⟩: ∃c2,((s.heap.update kS (Obj.mapSeq fun _=>(#[]:Array Value))).update a (Obj.mapSeq fun _=>(arrOf st).map (·.2))).get? a=some (seqObj "list" ((arrOf st).map (·.2)) c2):=
  ⟨_,get?_update_seq na1 fun _=>(arrOf st).map (·.2)⟩
 have hkl:keys.size≤1000:=by
  have:=hk.len
  rw[Array.length_toList] at this
  omega
 have hol:((arrOf st).map (·.2)).size≤1000:=by
  have q1:=o1.length
  have q2:=o2.length_eq
  rw[Array.length_toList] at q1
  omega
 have big:1000≤sizeLine:=by decide
 unfold ksk_tail
 try dsimp only
 refine wpAny_bind (listUpdate_at nk.1 rfl ?_ (Nat.le_trans hkl big) (Nat.zero_le _))
 refine wpAny_bind (wpAny_letGo ?_)
 refine wpAny_bind (seqEpoch_at na1 rfl ?_)
 refine wpAny_bind (listUpdate_at na1 rfl ?_ (Nat.zero_le _) (by simp only[Bool.false_eq_true,if_false];exact Nat.le_succ_of_le (Nat.le_trans hol big)))
 rw[hfl]
 simp only[bne_self_eq_false,Bool.false_eq_true,if_false]
 have J1:Inv X (pins++[(a,seqObj "list" #[] e1)]) σ H {s with heap:=s.heap.update kS (Obj.mapSeq fun _=>(#[]:Array Value))}:=
  J.YW (a:=a) (ao:=seqObj "list" #[] e1) (tk:=s.toks) (List.mem_append_right _ (.head _)) PV.k0 (fun p hp=>PV.kp p (List.mem_append_left _ hp)) s1 hc1 (fun v z=>nomatch z) _ fun p hp=>by
   rcases List.mem_append.mp hp with hp|hp
   ·exact .inr ⟨List.mem_append_left _ hp,PV.kp p (List.mem_append_right _ hp)⟩
   ·rw[List.mem_singleton.mp hp]
    exact .inr ⟨List.mem_append_right _ (.tail _ (.head _)),PV.ka.symm⟩
 refine wpAny_pure (h ns' _ (J1.track (List.mem_append_right _ (.head _)) PV.a0 (fun p hp=>PV.ap p (List.mem_append_left _ hp)) s2 ⟨_,hc2⟩ ⟨by rw[List.length_map,o2.length_eq];exact Nat.le_trans hlen big,((arrOf st).map (·.2)).toList,c2,yg o1,by rw[Array.toArray_toList];exact hc2⟩ fun p hp=>⟨List.mem_append_left _ hp,PV.ap p (List.mem_append_right _ hp)⟩) o2 o3 o4 na.2.1)
theorem Wn(I:Inv X pins σ H s){a f:Addr}{its:List Value}{ns:List Int}{g:Int→Int×Int}{n:Nat}{P:PySem.Fin→Shared→Prop}{E:Value→Shared→Prop}(ho:s.heap.get? a=some (seqObj "list" its.toArray n))(fp:zJ X pins H a)(ha0:X.s_0.heap.objs.size≤a)
  (hi:IntsAre its ns) (hlen:ns.length≤1000)
  (turn: ∀n∈ns,∀(tU:List (Addr×Obj)) (H':Hp) (s':Shared) (u:Value),(∀p∈pins,p∈tU)→Inv X tU σ H' s'→Same H H'→RelV (.int n) u→
   wpAny (model X.prog X.w) X.A.in1.in1 (call (.ref f) [u]) (EP X tU σ fun v H''=>∃T,v= .ref T∧H'' T=some (.tup [.int (g n).1,.int (g n).2])∧Same H' H'') (fun _ _=>False) s')
  (h: ∀(ns':List Int) (H':Hp) (s':Shared),Inv X pins σ (upd H' a (.lst (ns'.map V.int))) s'→ns'.Perm ns→ns'.Pairwise (fun x y=>¬Fs.lt2 (g y) (g x))→(∀c,ns'.filter (fun x=>g x==c)=ns.filter (fun x=>g x==c))→Same H H'→H' a=none→P (.done (.ret .none)) s'):
  wpAny (model X.prog X.w) X.A.in1.in1 (ksk_tree a (.ref f) false) P E s:=by
 have hz:=hi.length
 have big:1000≤sizeLine:=by decide
 have line:its.length≤sizeLine:=Nat.le_trans (show its.length≤1000 by omega) big
 have ha:a<s.heap.objs.size:=Heap.lt_size ho
 have s1:=Heap.SameBut.update s.heap a (Obj.mapSeq fun _=>(#[]:Array Value))
 obtain⟨e1,ho1⟩: ∃e1,(s.heap.update a (Obj.mapSeq fun _=>(#[]:Array Value))).get? a=some (seqObj "list" #[] e1):=⟨_,get?_update_seq ho fun _=> #[]⟩
 unfold ksk_tree
 refine wpAny_bind (listItems_at ho rfl ?_)
 refine wpAny_bind (listUpdate_at ho rfl ?_ (by rw[List.size_toArray];exact line) (Nat.zero_le _))
 refine wpAny_bind (seqEpoch_at ho1 rfl ?_)
 refine wpAny_bind (wpAny_newTuple ?_ (by show its.length≤_;exact line))
 refine wpAny_bind (wpAny_newList ?_ (Nat.zero_le _))
 refine wpAny_holding ?_
 have J1:Inv X pins σ H {s with heap:=s.heap.update a (Obj.mapSeq fun _=>(#[]:Array Value))}:=I.turned (it:=a) (t':=s.toks) (fun b o nb e=>(s1.2 b nb).trans e) fp.1 fp.2.1 fp.2.2.2.1 fp.2.2.2.2.1 fp.2.2.2.2.2
 have hkS:((s.heap.update a (Obj.mapSeq fun _=>(#[]:Array Value))).push (seqObj "tuple" its.toArray 0)).objs.size=s.heap.objs.size+1:=by rw[size_push',Heap.size_update]
 obtain⟨kS,hkk⟩: ∃kS:Nat,kS=((s.heap.update a (Obj.mapSeq fun _=>(#[]:Array Value))).push (seqObj "tuple" its.toArray 0)).objs.size:=⟨_,rfl⟩
 have hkS2:kS=s.heap.objs.size+1:=hkk.trans hkS
 rw[←hkk]
 have J2:Inv X pins σ H {s with heap:=((s.heap.update a (Obj.mapSeq fun _=>(#[]:Array Value))).push (seqObj "tuple" its.toArray 0)).push (seqObj "list" #[] 0)}:=J1.kept (t':=s.toks) fun b o e=>Heap.get?_push_of_some _ (Heap.get?_push_of_some _ e)
 have gk:(((s.heap.update a (Obj.mapSeq fun _=>(#[]:Array Value))).push (seqObj "tuple" its.toArray 0)).push (seqObj "list" #[] 0)).get? kS=some (seqObj "list" #[] 0):=by rw[hkk];exact Heap.get?_push_size _ rfl
 have ga:(((s.heap.update a (Obj.mapSeq fun _=>(#[]:Array Value))).push (seqObj "tuple" its.toArray 0)).push (seqObj "list" #[] 0)).get? a=some (seqObj "list" #[] e1):=Heap.get?_push_of_some _ (Heap.get?_push_of_some _ ho1)
 have hks:s.heap.objs.size≤kS:=by rw[hkS2];exact Nat.le_succ _
 have fk:=I.Py (H':=H) hks (I.hok.fresh hks)
 have PV:Priv X pins kS a:=⟨Nat.le_trans I.sz hks,ha0,fk.2.2.2.2.2,fp.2.2.2.2.2,by rw[hkS2];exact Nat.ne_of_gt (Nat.lt_succ_of_lt ha)⟩
 have J3:Inv X (pins++[(kS,seqObj "list" #[] 0),(a,seqObj "list" #[] e1)]) σ H {s with heap:=((s.heap.update a (Obj.mapSeq fun _=>(#[]:Array Value))).push (seqObj "tuple" its.toArray 0)).push (seqObj "list" #[] 0)}:=by
  refine J2.qK fun p hp=>?_
  rcases List.mem_append.mp hp with hp|hp
  ·exact J2.pin p (List.mem_append_right _ hp)
  ·rcases List.mem_cons.mp hp with rfl|hp
   ·exact⟨gk,fk.1,fk.2.1,fk.2.2.1,fun v z=>nomatch z⟩
   ·rw[List.mem_singleton.mp hp]
    exact⟨ga,fp.1,fp.2.1,fp.2.2.1,fun v z=>nomatch z⟩
 unfold ksk_rest
 refine wpAny_bind (wpAny_rule ?_)
 first
  |rw[List.forIn_toArray]
  |(rw[←Array.forIn_toList];simp only[List.toList_toArray])
  |rw[←Array.forIn_toList]
 refine wpAny_bind (ksk_fold (fun i s'=>∃H' kA e,Inv X (pins++[(kS,seqObj "list" kA e),(a,seqObj "list" #[] e1)]) σ H' s'∧Same H H'∧Keys H' g (ns.take i) kA.toList) its 0 _
  ⟨H,#[],0,J3,Same.refl H,⟨rfl,fun j n e=>by simp at e⟩⟩ ?step ?done)
 case step=>
  rintro j x s' hx ⟨H',kA,e,J,hH,hk⟩
  simp only[Nat.zero_add] at hk⊢
  have hj:j<its.length:=(List.getElem?_eq_some_iff.mp hx).1
  have hjn:j<ns.length:=by omega
  obtain⟨t,ht⟩:=hi.get j _ (List.getElem?_eq_getElem hjn)
  rw[hx] at ht
  obtain rfl:=Option.some.inj ht
  refine wpAny_bind (wpAny_attempt (wpAny_mono (turn ns[j] (List.getElem_mem hjn) _ H' s' _ (fun p hp=>List.mem_append_left _ hp) J hH ⟨t,rfl⟩) (fun v s'' he=>?_) fun _ _ hF=>hF.elim))
  obtain⟨v',H'',J',rv',T,rfl,hT,hS⟩:=he
  obtain rfl:v= .ref T:=rv'
  try dsimp only
  have nk:=J'.pin (kS,seqObj "list" kA e) (List.mem_append_right _ (List.mem_append_right _ (.head _)))
  have s1':=Heap.SameBut.update s''.heap kS (Obj.mapSeq (·.push (.ref T)))
  obtain⟨c2,hc2⟩: ∃c2,(s''.heap.update kS (Obj.mapSeq (·.push (.ref T)))).get? kS=some (seqObj "list" (kA.push (.ref T)) c2):=⟨_,get?_update_seq nk.1 (·.push (.ref T))⟩
  have hkl:kA.size≤j:=by
   have:=hk.len
   rw[Array.length_toList,List.length_take] at this
   omega
  refine wpAny_bind (listUpdate_at nk.1 rfl ?_ (Nat.le_trans (show kA.size≤1000 by omega) big) (Nat.le_succ_of_le (Nat.le_trans (show(kA.push (.ref T)).size≤1000 by rw[Array.size_push];omega) big)))
  refine wpAny_pure ⟨rfl,H'',kA.push (.ref T),c2,J'.YW (a:=a) (ao:=seqObj "list" #[] e1) (tk:=s''.toks) (List.mem_append_right _ (.head _)) PV.k0 (fun p hp=>PV.kp p (List.mem_append_left _ hp)) s1' hc2 (fun v z=>nomatch z) _ (fun p hp=>?_),hH.trans hS,?_⟩
  ·rcases List.mem_append.mp hp with hp|hp
   ·exact .inr ⟨List.mem_append_left _ hp,PV.kp p (List.mem_append_right _ hp)⟩
   ·rcases List.mem_cons.mp hp with rfl|hp
    ·exact .inl rfl
    ·rw[List.mem_singleton.mp hp]
     exact .inr ⟨List.mem_append_right _ (.tail _ (.head _)),PV.ka.symm⟩
  ·have ek:ns.take (j+1)=ns.take j++[ns[j]]:=by rw[List.take_succ,List.getElem?_eq_getElem hjn];rfl
   have ea:(kA.push (Value.ref T)).toList=kA.toList++[Value.ref T]:=by simp
   rw[ek,ea]
   exact(hk.same hS).snoc hT
 case done=>
  rintro s' ⟨H',kA,e,J,hH,hk⟩
  have e3:ns.take (0+its.length)=ns:=List.take_of_length_le (by omega)
  rw[e3] at hk
  have nk:=J.pin (kS,seqObj "list" kA e) (List.mem_append_right _ (List.mem_append_right _ (.head _)))
  have hkl:kA.size=its.length:=by
   have:=hk.len
   rw[Array.length_toList] at this
   omega
  have hzs:(kA.zip its.toArray).size=its.length:=by rw[Array.size_zip,hkl,List.size_toArray,Nat.min_self]
  have fin: ∀st':SortSt,(arrOf st').Perm (kA.zip its.toArray)→SortedToK (G.tupKindC s'.heap fun _=>false) (arrOf st') (arrOf st').size→Stable (G.tupKindC s'.heap fun _=>false) (arrOf st') (kA.zip its.toArray)→failedOf st'=none→
    wpAny (model X.prog X.w) X.A.in1.in1 (ksk_tail a false e1 (.ref kS) st') P E s':=fun st' p1 p2 p3 p4=>
   Wm J PV hi hlen hk p1 p2 p3 p4 fun ns' s2 J2 q1 q2 q3 q4=>h ns' H' s2 J2 q1 q2 q3 hH q4
  try dsimp only
  refine wpAny_bind (listItems_at nk.1 rfl ?_)
  unfold ksk_end
  try dsimp only
  simp only[Bool.false_eq_true,if_false]
  by_cases h2:its.toArray.size<2
  ·rw[if_pos h2,if_pos h2]
   refine wpAny_bind (wpAny_pure ?_)
   rw[StateT.run_pure]
   refine wpAny_bind (wpAny_pure ?_)
   try dsimp only
   refine fin (SortSt.mk' general' (kA.zip its.toArray) #[] 7 none) (Array.Perm.refl _) ?_ (Stable.refl _) rfl
   intro i j hij hj
   have hj2:j<(kA.zip its.toArray).size:=hj
   rw[hzs] at hj2
   rw[List.size_toArray] at h2
   have:i=j:=by omega
   subst this
   exact KeyOrd.kle_refl _
  ·rw[if_neg h2,if_neg h2]
   rw[List.size_toArray] at h2
   have tups: ∀(l:List Int) (k:List Value),Keys H' g l k→∃fs,TupsOf s'.heap (fun _=>false) k fs:=by
    intro l
    induction l with
    |nil=>
     intro k hk'
     have:k=[]:=List.length_eq_zero_iff.mp hk'.len
     subst this
     exact⟨[],.nil⟩
    |cons m l ih=>
     intro k hk'
     cases k with
     |nil=>have:=hk'.len;simp at this
     |cons v k=>
      obtain⟨T,t1,t2⟩:=hk'.at_ 0 m rfl
      have ev:v= .ref T:=Option.some.inj t1
      subst ev
      obtain⟨fs,hfs⟩:=ih k ⟨by have:=hk'.len;simpa using this,fun j n e=>hk'.at_ (j+1) n (by simpa using e)⟩
      obtain⟨f0,hf0⟩:=(RV J.hok t2).2
      exact⟨f0::fs,.cons hf0 hfs⟩
   obtain⟨fs,hfs⟩:=tups ns kA.toList hk
   have hfl:=G.TupsOf.length hfs
   have hk2:kA.toList.length=its.length:=by rw[Array.length_toList];exact hkl
   have hkd:kA=kA.toList.toArray:=by simp
   rw[hkd]
   refine wpAny_bind (tup_kind (by omega) hfs ?_)
   rw[←hkd]
   refine wpAny_bind (wpAny_mono (G.wpS_sortRunsSt (κ:=G.tupKindC s'.heap fun _=>false) (kd:=tuples' true) (a₀:=kA.zip its.toArray) (st:=SortSt.mk' (tuples' true) (kA.zip its.toArray) #[] 7 none)
    (Q:=fun _ st'=>(arrOf st').Perm (kA.zip its.toArray)∧failedOf st'=none∧SortedToK (G.tupKindC s'.heap fun _=>false) (arrOf st') (kA.zip its.toArray).size∧Stable (G.tupKindC s'.heap fun _=>false) (arrOf st') (kA.zip its.toArray))
    (G.tupC_ltAt true (G.KeepsTups.refl _)) (fun p hp=>⟨_,((hk.mem hi J.hok) p hp).2.2⟩) ⟨Array.Perm.refl _,rfl,rfl⟩ rfl (Stable.refl _) (by rw[hzs];omega) fun st' a1 a2 a3 a4=>⟨a1,a2,a3,a4⟩) ?_ fun _ _ e=>e)
   rintro⟨⟨⟩,st'⟩ s2 ⟨rfl,hp,hf,hs,hst⟩
   try dsimp only
   exact fin st' hp (by rw[hp.size_eq];exact hs) hst hf
theorem Qk(I:Inv X pins σ H s){l f:Addr}{ns:List Int}{g:Int→Int×Int}{E:Value→Shared→Prop}(hl:SqL X.K H l (ns.map V.int))(hlen:ns.length≤1000)
  (turn: ∀n∈ns,∀(tU:List (Addr×Obj)) (H':Hp) (s':Shared) (u:Value),(∀p∈pins,p∈tU)→Inv X tU σ H' s'→Same H H'→RelV (.int n) u→
   wpAny (model X.prog X.w) X.A.in1.in1 (call (.ref f) [u]) (EP X tU σ fun v H''=>∃T,v= .ref T∧H'' T=some (.tup [.int (g n).1,.int (g n).2])∧Same H' H'') (fun _ _=>False) s')
  {Q:VK} (q: ∀(ns':List Int) (p:Addr) (H':Hp),ns'.Perm ns→ns'.Pairwise (fun x y=>¬Fs.lt2 (g y) (g x))→(∀c,ns'.filter (fun x=>g x==c)=ns.filter (fun x=>g x==c))→Same H H'→H' p=none→Q (.ref p) (upd H' p (.lst (ns'.map V.int)))):
  wpAny (model X.prog X.w) X.A (call (.builtin "sorted") [.ref l] [(Str.ofString "key",.ref f)]) (EP X pins σ Q) E s:=by
 obtain⟨its,rv,hIL,_⟩:=I.list hl
 have hi:=rv.ints
 have hz:=hi.length
 have big:1000≤sizeLine:=by decide
 have line:its.length≤sizeLine:=Nat.le_trans (show its.length≤1000 by omega) big
 refine call_function_entry_kw kind_sorted plain_sorted entry_sorted (ksk_s1 _ _) ?_
 unfold Builtin.«sorted»
 refine wpAny_bind (m:=checkCount "sorted" 1 1 _) (wpAny_pure ?_)
 refine wpAny_bind (collect_list hIL.isList ?_ (by first|exact line|(rw[List.size_toArray];exact line)))
 refine wpAny_bind (wpAny_newList ?_ (by first|exact line|(rw[List.size_toArray];exact line)|simpa using line))
 have hsz:((s.heap.push (seqObj "list" #[] 0)).update s.heap.objs.size (Obj.mapSeq (· ++its.toArray))).objs.size=s.heap.objs.size+1:=by
  rw[Heap.size_update,size_push']
 have hoL:(((s.heap.push (seqObj "list" #[] 0)).update s.heap.objs.size (Obj.mapSeq (· ++its.toArray))).push (seqObj "list" its.toArray 0)).get? (s.heap.objs.size+1)=some (seqObj "list" its.toArray 0):=by
  rw[←hsz];exact Heap.get?_push_size _ rfl
 have keep: ∀b o,s.heap.get? b=some o→(((s.heap.push (seqObj "list" #[] 0)).update s.heap.objs.size (Obj.mapSeq (· ++its.toArray))).push (seqObj "list" its.toArray 0)).get? b=some o:=fun b o q=>by
  have hlt:b<s.heap.objs.size:=Heap.lt_size q
  rw[Heap.get?_push_ne _ _ _ (by rw[hsz];exact Nat.ne_of_lt (Nat.lt_succ_of_lt hlt)),Heap.get?_update_ne _ _ _ _ (Nat.ne_of_lt hlt),Heap.get?_push_ne _ _ _ (Nat.ne_of_lt hlt)]
  exact q
 show wpAny _ _ _ _ _ {s with heap:=((s.heap.push (seqObj "list" #[] 0)).update s.heap.objs.size (Obj.mapSeq (· ++its.toArray))).push (seqObj "list" its.toArray 0)}
 rw[hsz]
 have I1:Inv X pins σ H {s with heap:=((s.heap.push (seqObj "list" #[] 0)).update s.heap.objs.size (Obj.mapSeq (· ++its.toArray))).push (seqObj "list" its.toArray 0)}:=I.kept (t':=s.toks) keep
 have hle:s.heap.objs.size≤s.heap.objs.size+1:=Nat.le_succ _
 refine wpAny_bind (wpAny_holding (wpAny_call_entry_kw slot_list_sort ⟨_,hoL,rfl⟩ entry_list_sort ?body (ksk_l1 _ _)))
 case body=>
  show wpAny (model X.prog X.w) X.A.in1.in1 (Builtin.«list.sort» ⟨[.ref (s.heap.objs.size+1)],[(Str.ofString "key",.ref f)]⟩) _ _ _
  rw[ksk_t1]
  refine Wn I1 hoL (I.Py hle (I.hok.fresh hle)) (Nat.le_trans I.sz hle) hi hlen turn fun ns' H' s' J q1 q2 q3 q4 q5=>⟨_,rfl,?_⟩
  exact wpAny_pure ⟨_,rfl,.ref _,_,J,rfl,q ns' _ H' q1 q2 q3 q4 q5⟩
end
theorem Wo:bootBuiltins "sorted"=some (.builtin "sorted"):=by decide+kernel
theorem Ql:bootBuiltins "list"=some (.type "list"):=by decide+kernel
theorem aa5:bootBuiltins "set"=some (.type "set"):=by decide+kernel
theorem YX:bootBuiltins "all"=some (.builtin "all"):=by decide+kernel
def lamS(σ:St)(i j:Nat)(v:V):St:=[some v,(σ[i]?).getD none,(σ[j]?).getD none]
def Qm(K:PySem.W.Frag)(iR:Pos)(qual:Str)(P:Addr)(i j:Nat)(t:TE)(σ:St)(Q:VK):VK:=fun x H1=>∃(l:Addr) (ns:List Int) (g:Int→Int×Int),x= .ref l∧SqL K H1 l (ns.map V.int)∧ns.length≤1000∧TabOk iR qual H1 P∧
 ∀H2,aL [P] H1 H2→TabOk iR qual H2 P→(∀n∈ns,∀H3,Same H2 H3→t (lamS σ i j (.int n)) H3 fun v H4=>∃T,v= .ref T∧H4 T=some (.tup [.int (g n).1,.int (g n).2])∧Same H3 H4)∧
  ∀(ns':List Int) (p:Addr) (H3:Hp),ns'.Perm ns→ns'.Pairwise (fun x y=>¬Fs.lt2 (g y) (g x))→(∀c,ns'.filter (fun x=>g x==c)=ns.filter (fun x=>g x==c))→Same H2 H3→H3 p=none→Q (.ref p) (upd H3 p (.lst (ns'.map V.int)))
def Z1(K:PySem.W.Frag)(iR:Pos)(qual:Str)(P:Addr)(i j:Nat)(te t:TE):TE:=fun σ H Q=>te σ H (Qm K iR qual P i j t σ Q)
theorem Qn{X:Cx}{k:Nat}{e body:Expr}{te t:TE}{params:Arguments}{scope:Scope}{iR kpos pos sp:Pos}{P c:Addr}{i j:Nat}{p y1 y2:Str}(he:PE X e te)(hr:gw (k+3) X.A)(hm:X.mg "sorted"=none)
  (hcode:X.env.code= .ref c) (C:PySem.W.CodeHd X.base c P) (BM:uo X.mg X.base)
  (ht: ∀(s:Shared) (H:Hp) (L:Addr) (cl:List (Str×Addr)) (qual:Str) (f:Addr) (code:Value),gw k (X.A.in1.in1.deeper (newEnv scope L mainGlobals cl qual (some f) code none builtinsNs))→PE (X.lam X.A.in1.in1 s H [p,y1,y2] (newEnv scope L mainGlobals cl qual (some f) code none builtinsNs)) body t)
  (hi:X.N[i]?=some y1) (hj:X.N[j]?=some y2)
  (hs:scope.kind= .function∧scope.isCoroutine=false∧scope.isGenerator=false∧(∀y∈scope.names,y.2≠ .cell)∧scope.names.lookup p=some .local∧scope.names.lookup y1=some .free∧scope.names.lookup y2=some .free)
  (hfb:(scope.names.all fun y=>y.2 != .free||X.env.scope.names.lookup y.1==some .cell)=true)
  (hc1:X.env.scope.names.lookup y1=some .cell) (hc2:X.env.scope.names.lookup y2=some .cell)
  (hbind: ∀qual cl pm c' ct u,bindArgs (PySem.W.kla_fn "<lambda>" qual params body scope cl pm (.ref c') ct) ⟨[u],[]⟩=pure [(p,u)])
  (hg:Gl X "sorted":=by rfl) (hdef:defaultsOf params X.env=([],[]):=by rfl)
  (hl1:codeAmong iR ([]:List Value)=none:=by rfl) (hl2: ∀c',codeAmong iR [rawInt iR.line,rawInt iR.col,.ref c']=some (.ref c'):=by intro _;rfl) (ht2: ∀c',TriplesOk [rawInt iR.line,rawInt iR.col,.ref c']:=by intro _;trivial)
  (hst:starEach [e] X.env=[(false,eval e X.env)]:=by rfl):
  PE X (.Call (.Name "sorted" sp) [e] [⟨some "key",.Lambda params body scope iR,kpos⟩] pos) (Z1 X.K iR (X.env.qual++"<lambda>") P i j te t):=by
 intro pins s σ H Q I h
 obtain⟨hs1,hs2,hs3,hs4,hs5,hs6,hs7⟩:=hs
 have hf: ∀y∈scope.names,y.2= .free→X.env.scope.names.lookup y.1=some .cell:=fun y hy e=>by
  have z:=List.all_eq_true.mp hfb y hy
  rw[e] at z
  simpa using z
 have hcells: ∀y∈scope.names,y.2= .free→∃c,X.env.cells.lookup y.1=some c:=fun y hy e=>I.ok.has _ (.inl (hf y hy e))
 have L:VN X scope (dw X.env.cells scope.names []) p:=by
  refine⟨hs1,hs2,hs3,hs4,hs5,fun x c' e=>?_,fun x e=>?_⟩
  ·rcases lD (PySem.mem_of_lookup e) with z|⟨z1,z2⟩
   ·cases z
   ·obtain⟨c2,hc2⟩:=hcells _ z1 rfl
    rw[z2,hc2]
    rfl
  ·exact mem_lookup (nZ (cells:=X.env.cells) (acc:=[]) (PySem.mem_of_lookup e))
 have S: ∀v,VP X scope σ p v [p,y1,y2] (lamS σ i j v):=fun v=>by
  refine⟨rfl,fun a x v' e1 e2=>?_⟩
  have get: ∀{b:Nat},(σ[b]?).getD none=some v'→σ[b]?=some (some v'):=fun{b} z=>by
   cases q:σ[b]? with
   |none=>rw[q] at z;cases z
   |some w=>rw[q] at z;exact congrArg some z
  match a,e1,e2 with
  |0,e1,e2=>
   obtain rfl:=Option.some.inj e1
   have:=Option.some.inj (Option.some.inj e2)
   exact .inl ⟨hs5,rfl,this.symm⟩
  |1,e1,e2=>
   obtain rfl:=Option.some.inj e1
   exact .inr ⟨hs6,i,hi,get (Option.some.inj e2),hc1⟩
  |2,e1,e2=>
   obtain rfl:=Option.some.inj e1
   exact .inr ⟨hs7,j,hj,get (Option.some.inj e2),hc2⟩
  |a+3,e1,e2=>simp at e1
 refine wpAny_Call_Name_kw (tV I hg hm Wo ?_ (by decide) (by decide))
 have hR:gQ te lC σ H (fun vs H1=>match vs with|[x]=>Qm X.K iR (X.env.qual++"<lambda>") P i j t σ Q x H1|_=>False):=h
 refine callWith_kw (thn ((ak he aC hst) pos pins s σ H _ I hR) fun us s1 z=>?_) (by rw[hst];rfl) (by rw[hst];rfl)
 obtain⟨vs,H1,I1,r,q⟩:=z
 cases vs with
 |nil=>exact False.elim q
 |cons x vs=>
  cases vs with
  |cons y vs=>exact False.elim q
  |nil=>
   have q:Qm X.K iR (X.env.qual++"<lambda>") P i j t σ Q x H1:=q
   obtain⟨u,rfl,r0⟩:=vals1 r
   obtain⟨l,ns,g,rfl,hl,hlen,T,q⟩:=q
   obtain rfl:u= .ref l:=r0
   refine kws_cons (Wa I1 hdef (Dz hcells) hcode C BM T hl1 hl2 ht2 fun f c' pm ct H2 s2 J T2 K2 hc'=>kws_nil ?_)
   obtain⟨q1,q2⟩:=q H2 K2 T2
   have hl2':SqL X.K H2 l (ns.map V.int):=hl.keep K2 fun b hb u e=>by
    have eb:b=P:=by simpa using hb
    subst eb
    rcases T with T|⟨_,T,_⟩
    ·rw[T] at e;cases e;exact⟨fun z=>(nomatch z),fun o z=>(nomatch z)⟩
    ·rw[T] at e;cases e;exact⟨fun z=>(nomatch z),fun o z=>(nomatch z)⟩
   refine thn (Qk (f:=f) (g:=g) J hl2' hlen (fun n hn tU H' s' u hp J' hS r=>?_) q2) fun u s3 z=>?_
   ·have ho:=(J'.pin (f,_) (List.mem_append_right _ (hp _ (List.mem_append_right _ (.head _))))).1
    have hcd:s'.heap.CodeRec (.ref c') (X.env.qual++"<lambda>"):=(J'.hok c' _ (hS _ _ hc')).1
    have hr2:gw (k+1) X.A.in1.in1:=hr.in1.in1
    exact VR J' ho hcd hr2.depth I.ok.frames hr2.hd L (S (.int n)) r (hbind _ _ _ _ _ _) (ht s' H' _ _ _ _ _ (hr2.deeper _)) (q1 n hn H' hS)
   ·obtain⟨v,H',J',rv,qq⟩:=z
    exact⟨v,H',J'.tX,rv,qq⟩
section
variable{X:Cx}{p pos:Pos}
def aa7(ta:TA):TE:=fun σ H Q=>ta σ H fun vs H1=>∃j:Int,vs=[.int j]∧∀q,H1 q=none→Q (.ref q) (upd H1 q (.rng 0 j))
def aa8(ta:TA):TE:=fun σ H Q=>ta σ H fun vs H1=>∃i j:Int,vs=[.int i,.int j]∧∀q,H1 q=none→Q (.ref q) (upd H1 q (.rng i j))
theorem Jc{a:Expr}{ta:TA}(hg:Gl X "range")(hm:X.mg "range"=none)(ha:PA X [a] ta)(hs:starEach [a] X.env=[(false,eval a X.env)]:=by rfl):PE X (.Call (.Name "range" p) [a] [] pos) (aa7 ta):=by
 intro pins s σ H Q I h
 refine Call_ (tV I hg hm boot_range (PyProof.Rows.callWith_type1 (thn (ha pos pins s σ H _ I h) fun us s1 ⟨vs,H1,I1,r1,q1⟩=>?_) hs rfl))
 obtain⟨j,e,q⟩:=q1
 subst e
 cases r1 with
 |cons r rr=>
  cases rr
  obtain⟨t,rfl⟩:=r
  exact call_range_1 ⟨.ref _,upd H1 _ (.rng 0 j),I1.laid (o:= .rng 0 j) (fun b o e=>Heap.get?_push_of_some _ e) (Nat.le_refl _) ⟨_,_,_,Heap.get?_push_size _ rfl⟩,rfl,q _ (I1.hok.fresh (Nat.le_refl _))⟩
theorem Ud{a b:Expr}{ta:TA}(hg:Gl X "range")(hm:X.mg "range"=none)(ha:PA X [a,b] ta)(hs:starEach [a,b] X.env=[(false,eval a X.env),(false,eval b X.env)]:=by rfl)(hs2:starEach [b] X.env=[(false,eval b X.env)]:=by rfl):PE X (.Call (.Name "range" p) [a,b] [] pos) (aa8 ta):=by
 intro pins s σ H Q I h
 refine Call_ (tV I hg hm boot_range (PyProof.Rows.callWith_type1 (thn (ha pos pins s σ H _ I h) fun us s1 ⟨vs,H1,I1,r1,q1⟩=>?_) (by rw[hs,hs2]) (by rw[hs2];rfl)))
 obtain⟨i,j,e,q⟩:=q1
 subst e
 cases r1 with
 |cons r rr=>
  cases rr with
  |cons r' rr=>
   cases rr
   obtain⟨t,rfl⟩:=r
   obtain⟨t',rfl⟩:=r'
   exact call_range_2 ⟨.ref _,upd H1 _ (.rng i j),I1.laid (o:= .rng i j) (fun b o e=>Heap.get?_push_of_some _ e) (Nat.le_refl _) ⟨_,_,_,Heap.get?_push_size _ rfl⟩,rfl,q _ (I1.hok.fresh (Nat.le_refl _))⟩
def Em(lo hi:Int):List Int:=(List.range (hi - lo).toNat).map fun(k:Nat)=>lo+(k:Int)
theorem Nz: ∀{xs:List V} {us:List Value},xs.length=us.length→(∀(i:Nat) x u,xs[i]?=some x→us[i]?=some u→RelV x u)→Vals xs us
 |[],[],_,_=> .nil
 |x::xs,u::us,hl,h=> .cons (h 0 x u rfl rfl) (Nz (by simpa using hl) fun i x u h1 h2=>h (i+1) x u (by simpa using h1) (by simpa using h2))
theorem oR(hc:X.calm=true):Dn X (.type "list") (fun xs H Q=>∃q lo hi,xs=[.ref q]∧H q=some (.rng lo hi)∧(0≤lo∧lo≤1000∧0≤hi∧hi≤1000)∧∀l,H l=none→Q (.ref l) (upd H l (.lst ((Em lo hi).map V.int)))):=by
 intro pins s σ H xs us Q I r h
 obtain⟨q,lo,hi,rfl,hq,⟨b1,b2,b3,b4⟩,k⟩:=h
 rw[Vals.Xz r]
 obtain⟨t,u,v,ho⟩:=(show fP X.prog X.w H s.heap q (.rng lo hi) from I.hok q _ hq)
 have hn:Builtin.Range.rangeSize lo hi 1=((hi - lo).toNat:Nat):=by rw[rangeSize_one];split<;>omega
 refine call_list_range (n:=(hi - lo).toNat) (I.ok.hd hc) (show IsRange s.heap q lo hi 1 t u v from ho) (small_one (by omega) (by omega) (by omega) (by omega)) hn (by omega) fun h' tk acc c' kp e it=>?_
 have hl:((Em lo hi).map V.int).length=(hi - lo).toNat:=by unfold Em;rw[List.length_map,List.length_map,List.length_range]
 have hv:Vals ((Em lo hi).map V.int) acc.toList:=by
  refine Nz (by rw[hl,Array.length_toList,it.1]) fun i x w h1 h2=>?_
  have hi':i<(hi - lo).toNat:=by
   have:=(List.getElem?_eq_some_iff.mp h1).1
   omega
  unfold Em at h1
  rw[List.getElem?_map,List.getElem?_map,List.getElem?_range hi'] at h1
  obtain rfl:=Option.some.inj h1
  obtain⟨t',e'⟩:=it.2 i w (by rw[←Array.getElem?_toList];exact h2)
  refine⟨t',?_⟩
  rw[e']
  show Value.int (lo+(i:Int) * 1) t'=Value.int (lo+(i:Int)) t'
  rw[Int.mul_one]
 exact⟨.ref _,_,I.laid (o:= .lst ((Em lo hi).map V.int)) (t':=tk) kp (Nat.le_refl _) ⟨by rw[hl];exact Nat.le_trans (show(hi - lo).toNat≤1000 by omega) (by decide),acc.toList,c',hv,by simpa using e⟩,rfl,k _ (I.hok.fresh (Nat.le_refl _))⟩
theorem Ue:MtR X "list.count" (fun x xs H Q=>∃(a:Addr) (ns:List Int) (z:Int),x=V.ref a∧xs=[.int z]∧SqL X.K H a (ns.map V.int)∧Q (.int (ns.count z:Nat)) H):=by
 intro pins s σ H x xs v us Q I rx rxs h
 obtain⟨a,ns,z,rfl,rfl,hs,q⟩:=h
 cases rx
 cases rxs with
 |cons ry rt=>
  rename_i uy ut
  cases rt
  obtain⟨its,rv,⟨⟨cls,dd,data,sl⟩,n,ho,hc,hdn,hd⟩,hlen⟩:=I.list hs
  simp only at hc hd
  subst hc hd
  have fl:(ns.map V.int).all nY=true:=by
   rw[List.all_eq_true]
   intro y hy
   obtain⟨m,_,rfl⟩:=List.mem_map.mp hy
   rfl
  refine call_meets PySem.F.slot_list_count ⟨_,ho,rfl⟩ PySem.F.entry_list_count (PySem.F.args_list_count_2 _ _)
   (SeqAt.list_countAt a its.toArray n dd sl uy (eqU (.int z))) ⟨ho,fun u' hu'=>mX ry rfl rv fl u' (by simpa using hu'),?_⟩
  have cnt: ∀(ms:List Int) (ws:List Value),Vals (ms.map V.int) ws→ws.countP (eqU (.int z))=ms.count z:=by
   intro ms
   induction ms with
   |nil=>intro ws r;cases r;rfl
   |cons m ms ih=>
    intro ws r
    cases r with
    |cons r1 r2=>
     rw[List.countP_cons,ih _ r2,List.count_cons,Dv r1 rfl]
     show _+(if eqV (.int m) (.int z)=true then 1 else 0)=_
     by_cases e:m=z
     ·subst e;simp[eqV]
     ·have e2: ¬(m==z)=true:=by simpa using e
      simp[eqV,e]
  refine⟨.int (ns.count z:Nat),H,I.tok _,⟨s.toks,?_⟩,q⟩
  show Value.int _ _=_
  have:=cnt ns its rv
  simp[this]
end
theorem ur: ∀(xs ys:List Int),PyData.eqvAll (xs.map PyData.int) (ys.map PyData.int)=decide (xs=ys)
 |[],[]=>by rfl
 |[],y::ys=>by simp[PyData.eqvAll]
 |x::xs,[]=>by simp[PyData.eqvAll]
 |x::xs,y::ys=>by
  have ih:=ur xs ys
  rw[List.map_cons,List.map_cons]
  show(PyData.eqv (.int x) (.int y)&&PyData.eqvAll (xs.map PyData.int) (ys.map PyData.int))=_
  rw[ih]
  show((x==y)&&decide (xs=ys))=_
  rw[Bool.eq_iff_iff]
  simp
theorem RW{K:PySem.W.Frag}{H:Hp}: ∀ns:List Int,Dy K H (ns.map V.int) (ns.map PyData.int)
 |[]=> .nil
 |n::r=> .cons (.int n) (RW r)
theorem shaped_ints(xs:List Int):SeqAt.shaped (.list (xs.map PyData.int))=true:=by
 have c: ∀l:List Int,PyData.canLayAll0 (l.map PyData.int)=true:=by
  intro l
  induction l with
  |nil=>rfl
  |cons a l ih=>rw[List.map_cons];show(PyData.canLay0 (.int a)&&PyData.canLayAll0 (l.map PyData.int))=true;rw[ih];rfl
 have d: ∀l:List Int,PyData.depthAll (l.map PyData.int)≤1:=by
  intro l
  induction l with
  |nil=>decide
  |cons a l ih=>rw[List.map_cons];show max (PyData.depth (.int a)) (PyData.depthAll (l.map PyData.int))≤1;have:PyData.depth (.int a)≤1:=(by show 0≤1;decide);omega
 unfold SeqAt.shaped
 rw[Bool.and_eq_true]
 refine⟨c xs,decide_eq_true ?_⟩
 have:=d xs
 show PyData.depthAll (xs.map PyData.int)+1≤64
 omega
section
variable{X:Cx}
def Jd(H:Hp)(ys:List Int)(u:Value):Bool:=match u with
 | .ref m=>(match H m with
  |some (.lst xs)=>decide (xs=ys.map V.int)
  |_=>false)
 |_=>false
theorem uw{K:PySem.W.Frag}{H:Hp}{a:Addr}{ns:List Int}(h:SqL K H a (ns.map V.int)):Dp K H (.ref a) (.list (ns.map PyData.int)):= .lst h (RW ns)
theorem X8{xs ys:List Int}(h:xs.map V.int=ys.map V.int):xs=ys:=by
 induction xs generalizing ys with
 |nil=>cases ys with
  |nil=>rfl
  |cons y ys=>simp at h
 |cons x xs ih=>cases ys with
  |nil=>simp at h
  |cons y ys=>
   simp only[List.map_cons,List.cons.injEq,V.int.injEq] at h
   rw[h.1,ih h.2]
theorem gw.Yb{k:Nat}{A:Around}(r:gw k A):A.units+70<cLine:=by have:=r.un;omega
theorem Ug(hu:X.A.units+70<cLine):MtR X "list.index" (fun x xs H Q=>∃(a b:Addr) (as:List Addr) (xss:List (List Int)) (ys:List Int) (j:Nat),x=V.ref a∧xs=[.ref b]∧H a=some (.lst (as.map V.ref))∧
  (as.length=xss.length∧∀(m:Nat) c zs,as[m]?=some c→xss[m]?=some zs→H c=some (.lst (zs.map V.int)))∧SqL X.K H b (ys.map V.int)∧xss[j]?=some ys∧(∀m,m<j→xss[m]?≠some ys)∧Q (.int (j:Nat)) H):=by
 intro pins s σ H x xs v us Q I rx rxs h
 obtain⟨a,b,as,xss,ys,j,rfl,rfl,ha,⟨hlen,hrow⟩,hb,hj,hno,q⟩:=h
 cases rx
 cases rxs with
 |cons ry rt=>
  rename_i uy ut
  cases rt
  obtain rfl:uy= .ref b:=ry
  obtain⟨its,rv,⟨⟨cls,dd,data,sl⟩,n,ho,hc,hdn,hd⟩,hline⟩:=I.list (SqL.of ha)
  simp only at hc hd
  subst hc hd
  have hvl:=rv.length
  rw[List.length_map] at hvl
  have hsl:=sizeLine_eq
  rw[List.length_map] at hline
  have item: ∀(m:Nat) (u:Value),its[m]?=some u→∃c zs,u= .ref c∧as[m]?=some c∧xss[m]?=some zs∧H c=some (.lst (zs.map V.int)):=fun m u hu'=>by
   have hm:m<its.length:=(List.getElem?_eq_some_iff.mp hu').1
   have h1:as[m]?=some (as[m]'(by omega)):=List.getElem?_eq_getElem _
   have h2:xss[m]?=some (xss[m]'(by omega)):=List.getElem?_eq_getElem _
   obtain⟨w,hw,rw'⟩:=rv.get (i:=m) (by rw[List.getElem?_map,h1];rfl)
   rw[hu'] at hw
   obtain rfl:=Option.some.inj hw
   exact⟨_,_,rw',h1,h2,hrow m _ _ h1 h2⟩
  have eqs: ∀(m:Nat) (u:Value),its[m]?=some u→SeqAt.EqAt X.A.in1 s u (.ref b) (Jd H ys u)∧(Jd H ys u=true↔xss[m]?=some ys):=fun m u hu'=>by
   obtain⟨c,zs,rfl,h1,h2,h3⟩:=item m u hu'
   obtain⟨as1,r1⟩:=Dp.reads I _ _ _ (uw (K:=X.K) (SqL.of h3)) rfl
   obtain⟨as2,r2⟩:=Dp.reads I _ _ _ (uw hb) rfl
   have sh:=fun l=>shaped_ints l
   have z:=SeqAt.eqAt_reads _ _ X.A.in1 s _ _ _ _ r1 r2 (SeqAt.canLay_of_shaped (sh zs)) (SeqAt.canLay_of_shaped (sh ys)) (SeqAt.room_of_shaped (A:=X.A.in1) (sh zs) (by show X.A.units+1+64<cLine;omega))
   have e:PyData.eqv (.list (zs.map PyData.int)) (.list (ys.map PyData.int))=decide (zs=ys):=ur zs ys
   have e2:Jd H ys (.ref c)=decide (zs=ys):=by
    unfold Jd
    simp only[h3]
    rw[Bool.eq_iff_iff,decide_eq_true_eq,decide_eq_true_eq]
    exact⟨X8,fun e=>by rw[e]⟩
   rw[e] at z
   rw[e2,h2]
   refine⟨z,?_⟩
   rw[decide_eq_true_eq]
   exact⟨fun e=>by rw[e],fun e=>Option.some.inj e⟩
  have hjl:j<its.length:=by
   have:=(List.getElem?_eq_some_iff.mp hj).1
   omega
  have hja:j<its.toArray.size:=by simpa using hjl
  refine call_meets PySem.F.slot_list_index ⟨_,ho,rfl⟩ PySem.F.entry_list_index (PySem.F.args_list_index_2 _ _)
   (SeqAt.list_indexAt a its.toArray n dd sl (.ref b) (Jd H ys) j hja (by omega) ?_ ?_) ⟨ho,fun u' hu'=>?_,?_⟩
  ·have e1:its.toArray[j]=its[j]:=by simp
   rw[e1]
   exact((eqs j _ (List.getElem?_eq_getElem hjl)).2).mpr hj
  ·intro m hm hmj
   have hml:m<its.length:=by simpa using hm
   have e1:its.toArray[m]=its[m]:=by simp
   rw[e1]
   cases z:Jd H ys its[m] with
   |false=>rfl
   |true=>exact absurd (((eqs m _ (List.getElem?_eq_getElem hml)).2).mp z) (hno m hmj)
  ·obtain⟨m,hm⟩:=List.mem_iff_getElem?.mp (show u'∈its by simpa using hu')
   exact(eqs m u' hm).1
  ·exact⟨.int (j:Nat),H,I.tok _,⟨_,rfl⟩,q⟩
def kinds(ns:List Int):Nat:=(ns.foldl step_dedup []).length
theorem G4(hc:X.calm=true):Dn X (.type "set") (fun xs H Q=>∃(a:Addr) (ns:List Int),xs=[.ref a]∧SqL X.K H a (ns.map V.int)∧ns.length≤1000∧∀p S,H p=none→Q (.ref p) (upd H p (.set S (kinds ns)))):=by
 intro pins s σ H xs us Q I r h
 obtain⟨a,ns,rfl,hs,hl,k⟩:=h
 rw[Vals.Xz r]
 obtain⟨its,rv,hIL,_⟩:=I.list hs
 have hi:=rv.ints
 have hz:=hi.length
 refine PySem.call_set_list (I.ok.hd hc) hIL.isList (by simpa using hi) (by rw[List.size_toArray];show its.length+1<4096;omega) fun h' tk hS kp=>?_
 have e:(firstMet (fun i=>ns.getD i 0) its.toArray.size).length=kinds ns:=by
  unfold firstMet kinds
  have e2:(List.range its.toArray.size).map (fun i=>ns.getD i 0)=ns:=by
   refine List.ext_getElem? fun i=>?_
   rw[List.getElem?_map,List.size_toArray]
   by_cases q:i<ns.length
   ·rw[List.getElem?_range (by omega),List.getElem?_eq_getElem q]
    show some (ns.getD i 0)=_
    rw[List.getD_eq_getElem?_getD,List.getElem?_eq_getElem q]
    rfl
   ·rw[List.getElem?_eq_none (by rw[List.length_range];omega),List.getElem?_eq_none (by omega)]
    rfl
  rw[e2]
 rw[e] at hS
 exact⟨.ref _,_,I.laid (o:= .set _ (kinds ns)) (t':=tk) (fun b o e=>kp b o (Heap.lt_size e) e) (Nat.le_refl _) hS,rfl,k _ _ (I.hok.fresh (Nat.le_refl _))⟩
theorem G5:Dn X (.builtin "len") (fun xs H Q=>∃a S n,xs=[V.ref a]∧H a=some (.set S n)∧n≤1000∧Q (.int (n:Nat)) H):=by
 intro pins s σ H xs us Q I r h
 obtain⟨a,S,n,rfl,ha,hn,q⟩:=h
 rw[Vals.Xz r]
 obtain⟨o,es,ep,t,ho,hex,hd,_,_,hb,hf,hz⟩:=(show s.heap.SetOf (intKind X.prog X.w) a S n from I.hok a _ ha)
 exact call_len_set ho hex hd hf (by omega) ⟨.int (n:Nat),H,I.tok _,⟨_,by rw[hz]⟩,q⟩
end
theorem ux{K:PySem.W.Frag}{a:Addr}{xs:List V}{g:TG}{tb:TS}{D:Ends}{σ:St}{H:Hp}(Pv:Nat→St→Hp→Prop)(h0:Pv 0 σ H)(hl: ∀i σ H,Pv i σ H→SqL K H a xs)
  (hs: ∀i x T σ H,xs[i]?=some x→H T=none→Pv i σ H→g (.ref T) σ (upd H T (.tup [.int (i:Nat),x])) fun σ2 H2=>tb {D with nx:=Pv (i+1),ct:=Pv (i+1),bk:=D.nx} σ2 H2)
  (hd: ∀σ H,Pv xs.length σ H→D.nx σ H):
  ∃W:Nat→Nat→St→Hp→Prop,(∃m,W 0 m σ H)∧∀i m σ H,W i m σ H→
   ((Ite K a).stop i H∧D.nx σ H)∨((Ite K a).go i H∧∃N:St→Hp→Prop,(∀σ' H',N σ' H'→∃m',m'<m∧W (i+1) m' σ' H')∧∀x H',(Ite K a).yld i H x H'→g x σ H' fun σ2 H2=>tb {D with nx:=N,ct:=N,bk:=D.nx} σ2 H2):=by
 refine⟨fun i m σ H=>m=xs.length - i∧i≤xs.length∧Pv i σ H,⟨_,rfl,Nat.zero_le _,h0⟩,?_⟩
 rintro i m σ H ⟨rfl,hi,p⟩
 have q1:=hl i σ H p
 by_cases hlt:i<xs.length
 ·refine .inr ⟨⟨xs,xs[i],q1,by simp[hlt]⟩,Pv (i+1),fun σ' H' p'=>⟨xs.length - (i+1),by omega,rfl,hlt,p'⟩,fun v H' z=>?_⟩
  obtain⟨T,x,e1,e2,e3,e4⟩:=z
  subst e1 e3
  exact hs i x T σ H (e4 xs q1) e2 p
 ·have e:i=xs.length:=by omega
  refine .inl ⟨⟨xs,q1,by omega⟩,hd σ H (by rw[←e];exact p)⟩
theorem Yc{K:PySem.W.Frag}{a:Addr}{xs:List V}{g:TG}{tt:TT}{te:TE}{vs:List Nat}{σ:St}{H1:Hp}{D:Addr}{Qd:Hp→Prop}(Pv:Nat→Hp→Prop)(h0:Pv 0 (upd H1 D (.lst [])))(hl: ∀i H,i≤xs.length→Pv i H→SqL K H a xs)
  (hs: ∀i x T H,xs[i]?=some x→H T=none→Pv i H→g (.ref T) (wipe σ vs) (upd H T (.tup [.int (i:Nat),x])) fun σ2 H2=>wipe σ2 vs=wipe σ vs∧tt σ2 H2 fun b H3=>
   if b=true then te σ2 H3 fun y H4=>∃acc,H4 D=some (.lst acc)∧acc.length<sizeLine∧Pv (i+1) (upd H4 D (.lst (acc++[y]))) else Pv (i+1) H3) (hd: ∀H,Pv xs.length H→Qd H):
  ∃W:Nat→Nat→Hp→Prop,(∃m,W 0 m (upd H1 D (.lst [])))∧∀i m H,W i m H→
   ((Ite K a).stop i H∧Qd H)∨((Ite K a).go i H∧∃Nx:Hp→Prop,(∀H',Nx H'→∃m',m'<m∧W (i+1) m' H')∧∀x H',(Ite K a).yld i H x H'→g x (wipe σ vs) H' fun σ2 H2=>wipe σ2 vs=wipe σ vs∧tt σ2 H2 fun b H3=>
    if b=true then te σ2 H3 fun y H4=>∃acc,H4 D=some (.lst acc)∧acc.length<sizeLine∧Nx (upd H4 D (.lst (acc++[y]))) else Nx H3):=by
 refine⟨fun i m H=>m=xs.length - i∧i≤xs.length∧Pv i H,⟨xs.length,by simp,Nat.zero_le _,h0⟩,?_⟩
 rintro i m H ⟨rfl,hi,p⟩
 have q1:=hl i H hi p
 by_cases hlt:i<xs.length
 ·refine .inr ⟨⟨xs,xs[i],q1,by simp[hlt]⟩,Pv (i+1),fun H' p'=>⟨xs.length - (i+1),by omega,rfl,hlt,p'⟩,fun v H' z=>?_⟩
  obtain⟨T,x,e1,e2,e3,e4⟩:=z
  subst e1 e3
  exact hs i x T H (e4 xs q1) e2 p
 ·have e:i=xs.length:=by omega
  exact .inl ⟨⟨xs,q1,by omega⟩,hd H (by rw[←e];exact p)⟩
theorem Z2{K:PySem.W.Frag}{a b:Addr}{xs ys:List V}{g:TG}{tt:TT}{te:TE}{vs:List Nat}{σ:St}{H1:Hp}{D:Addr}{Qd:Hp→Prop}(Pv:Nat→Hp→Prop)(h0:Pv 0 (upd H1 D (.lst [])))(hl: ∀i H,Pv i H→SqL K H a xs∧SqL K H b ys)
  (hs: ∀i x y T H,xs[i]?=some x→ys[i]?=some y→H T=none→Pv i H→g (.ref T) (wipe σ vs) (upd H T (.tup [x,y])) fun σ2 H2=>wipe σ2 vs=wipe σ vs∧tt σ2 H2 fun b H3=>
   if b=true then te σ2 H3 fun y H4=>∃acc,H4 D=some (.lst acc)∧acc.length<sizeLine∧Pv (i+1) (upd H4 D (.lst (acc++[y]))) else Pv (i+1) H3) (hd: ∀H,Pv (min xs.length ys.length) H→Qd H):
  ∃W:Nat→Nat→Hp→Prop,(∃m,W 0 m (upd H1 D (.lst [])))∧∀i m H,W i m H→
   ((Itz K a b).stop i H∧Qd H)∨((Itz K a b).go i H∧∃Nx:Hp→Prop,(∀H',Nx H'→∃m',m'<m∧W (i+1) m' H')∧∀x H',(Itz K a b).yld i H x H'→g x (wipe σ vs) H' fun σ2 H2=>wipe σ2 vs=wipe σ vs∧tt σ2 H2 fun b H3=>
    if b=true then te σ2 H3 fun y H4=>∃acc,H4 D=some (.lst acc)∧acc.length<sizeLine∧Nx (upd H4 D (.lst (acc++[y]))) else Nx H3):=by
 refine⟨fun i m H=>m=min xs.length ys.length - i∧i≤min xs.length ys.length∧Pv i H,⟨_,rfl,Nat.zero_le _,h0⟩,?_⟩
 rintro i m H ⟨rfl,hi,p⟩
 obtain⟨q1,q2⟩:=hl i H p
 by_cases hlt:i<min xs.length ys.length
 ·have h1:i<xs.length:=by omega
  have h2:i<ys.length:=by omega
  refine .inr ⟨⟨xs,ys,xs[i],ys[i],q1,q2,by simp[h1],by simp[h2]⟩,Pv (i+1),fun H' p'=>⟨min xs.length ys.length - (i+1),by omega,rfl,hlt,p'⟩,fun v H' z=>?_⟩
  obtain⟨T,x,y,e1,e2,e3,e4,e5⟩:=z
  subst e1 e3
  exact hs i x y T H (e4 xs q1) (e5 ys q2) e2 p
 ·have e:i=min xs.length ys.length:=by omega
  exact .inl ⟨⟨xs,ys,q1,q2,by omega⟩,hd H (by rw[←e];exact p)⟩
theorem En{X:Cx}{K:PySem.W.Frag}{i j:Nat}{x y:Str}{px py tp:Pos}{k:Nat}(hK:X.K=K)(hc:X.calm=true)(hN:X.N.Nodup)(hi:X.N[i]?=some x)(hj:X.N[j]?=some y)(hx:X.env.scope.names.lookup x=some .local)(hy:X.env.scope.names.lookup y=some .local):
  PG X (.Tuple [.Name x px,.Name y py] k tp) (gTup K 2 (Ve (wk i) (Ve (wk j) gNil))):=by
 subst hK
 exact qN hc (dz (bF hN hi (.inl hx) (.inr hx)) (dz (bF hN hj (.inl hy) (.inr hy)) mC))
section
variable{X:Cx}{K:PySem.W.Frag}
theorem JX{e:Expr}{f:Str}{pos:Pos}{ta:TE}(hK:X.K=K)(he:PE X e ta)(hb:attributeBase e f X.env (eval e X.env)=eval e X.env):PE X (.Attribute e f pos) (Ms K ta f):=by
 subst hK
 exact aW he hb
theorem Wq(hK:X.K=K):IxR X (Zy K):=by
 subst hK
 exact bK
theorem Z4(hK:X.K=K):OpR X (compareOp .In) (rIn K false):=by
 subst hK
 exact S8
theorem Yd(hK:X.K=K)(hu:X.A.units+64<cLine):OpR X (compareOp .Eq) (rEqD K):=by
 subst hK
 exact Vx hu
def Ye(K:PySem.W.Frag):V→List V→Hp→VK→Prop:=fun x xs H Q=>∃(a b:Addr) (as:List Addr) (xss:List (List Int)) (ys:List Int) (j:Nat),x=V.ref a∧xs=[.ref b]∧H a=some (.lst (as.map V.ref))∧
  (as.length=xss.length∧∀(m:Nat) c zs,as[m]?=some c→xss[m]?=some zs→H c=some (.lst (zs.map V.int)))∧SqL K H b (ys.map V.int)∧xss[j]?=some ys∧(∀m,m<j→xss[m]?≠some ys)∧Q (.int (j:Nat)) H
theorem Qo(hK:X.K=K)(hu:X.A.units+70<cLine):MtR X "list.index" (Ye K):=by
 subst hK
 exact Ug hu
theorem Z5{o e:Expr}{es:List Expr}{to:TE}{t:TA}{name:Str}{apos cpos:Pos}{T id:String}{r:V→List V→Hp→VK→Prop}(hK:X.K=K)(pa:PlainAttrs T)(slot:Slot T name id)(hty:typeOf (.builtin id)=pure (.type "method_descriptor"))(hm:MtR X id r)(ho:PE X o to)(ha:PA X (e::es) t)
  (hbase:attributeBase o name X.env (eval o X.env)=eval o X.env:=by rfl)
  (hfew:((backTo cpos (starEach (e::es) X.env)).all (fun x=> !x.1)&&(backToKw cpos (keywordEach [] X.env)).all (fun x=>x.1.isSome)
   &&decide ((e::es).length+([]:List Keyword).length+(if([]:List Keyword).isEmpty then 0 else 1)<30))=true:=by rfl)
  (hline:(apos.endLine==cpos.line)=true:=by rfl) (hs:starEach (e::es) X.env=(false,eval e X.env)::starEach es X.env:=by rfl) (hplain:(backTo cpos (starEach es X.env)).any (·.1)=false:=by rfl):
  PE X (.Call (.Attribute o name apos) (e::es) [] cpos) (tBM K T r to t):=by
 subst hK
 exact jw pa slot hty hm ho ha hbase hfew hline hs hplain
end
open PySem.W (WData Codec OpenSpec Well WellAll ReadsW ReadsAllW)
section
variable{K:PySem.W.Frag}{H H':Hp}
theorem Same.seqT{a:Addr}{xs:List V}(e:Same H H')(h:SqT K H a xs):SqT K H' a xs:=by
 rcases h with(h|⟨o,h⟩)|h
 ·exact .inl (.inl (e _ _ h))
 ·exact .inl (.inr ⟨o,e _ _ h⟩)
 ·exact .inr h
mutual
theorem Dw.same(k:Same H H'): ∀(d:WData) (v:V),Dw K H v d→Dw K H' v d
 | .none,_,x=>by cases x;exact .non
 | .bool b,_,x=>by cases x;exact .bl b
 | .int i,_,x=>by cases x;exact .int i
 | .str s,_,x=>by cases x;exact .str s
 | .bytes b,_,x=>by
  cases x
  exact .byt _
 | .list ds,_,x=>by
  cases x with
  |lst hs ha=>exact .lst (k.seq hs) (Dw.sameAll k ds _ ha)
 | .tuple ds,_,x=>by
  cases x with
  |tup hs ha=>exact .tup (k.seqT hs) (Dw.sameAll k ds _ ha)
 | .float _,_,x=>by cases x
 | .dict _,_,x=>by cases x
 | .bytearray _,_,x=>by cases x
 | .set _,_,x=>by cases x
 | .frozenset _,_,x=>by cases x
 | .obj _ _,_,x=>by cases x
theorem Dw.sameAll(k:Same H H'): ∀(ds:List WData) (vs:List V),oh K H vs ds→oh K H' vs ds
 |[],_,x=>by cases x;exact .nil
 |d::ds,_,x=>by
  cases x with
  |cons h1 h2=>exact .cons (Dw.same k d _ h1) (Dw.sameAll k ds _ h2)
end
end
def Wr(K:PySem.W.Frag):Bool:=K.all fun p=>match p.2.data with
 | .fields vs=>decide (vs.size≠0)
 |_=>true
theorem Ws{K:PySem.W.Frag}(h:Wr K=true){a:Addr}{o:Obj}(e:K.lookup a=some o):o.data≠ .fields #[]:=fun q=>by
 have m:(a,o)∈K:=by
  clear h q
  induction K with
  |nil=>cases e
  |cons p r ih=>
   obtain⟨b,x⟩:=p
   rw[List.lookup_cons] at e
   split at e
   ·rename_i z
    have z:a=b:=by simpa using z
    cases e
    rw[z]
    exact List.mem_cons_self
   ·exact List.mem_cons_of_mem _ (ih e)
 have z:=List.all_eq_true.mp h _ m
 have z:(match o.data with
  | .fields vs=>decide (vs.size≠0)
  |_=>true)=true:=z
 rw[q] at z
 exact absurd z (by decide)
theorem Qp{P:Program}{w:World}{K:PySem.W.Frag}{mg mb:Str→Option Value}{CX:CXT}{k:Nat}{fa:Addr}{fd:FuncData}{ps:List Str}{sp:Sp}{s₁:Shared}{vals:List Value}{ds:List WData}{R:PySem.W.WRecords}{cl:Str→Option Addr}{d0:WData}{ct pt:Addr}
  (KX:K.In s₁.heap) (hns:s₁.heap.Ns mainGlobals mg) (hb:s₁.heap.Ns builtinsNs mb) (hbb: ∀x:Str,x≠"__name__"→mb x=bootBuiltins x) (hlim:s₁.heap.NoLimit) (hg:s₁.gens= #[])
  (hwl:WellAll w.params s₁.heap vals ds) (hpl:BW ds=true) (hwt: ∀d∈ds,d.weight≤1048576) (hr:gw k callerA)
  (hC:s₁.heap.IsCode ct pt #[]) (hT:s₁.heap.TableAt ct pt #[]) (hnt:Wr K=true) (BM:uo mg s₁.heap)
  (F: ∀base:Heap,K.In base→base.Ns mainGlobals mg→PySem.W.CodeHd base ct pt→uo mg base→bJ P w K mg base CX k fa fd ps sp) (hbind: ∀(s:Shared) (us:List Value),us.length=ps.length→BindsTo s fd ⟨us,[]⟩ (ps.zip us)) (hlen:ds.length=ps.length)
  (hsp: ∀(H:Hp) (xs:List V),H pt=some (.tbl #[])→oh K H xs ds→sp xs H (fun v H'=>Dw K H' v d0) fun _ _ _=>False)
  (hCX: ∀H e s',CX [] H s₁ (fun _ _ _=>False) e s'→False):
  codeAny (model P w) callerA (.call (.ref fa) ⟨vals,[]⟩) (fun r s'=>∃u as,r= .ok (.ret u)∧ReadsW R cl s'.heap u d0 as∧OldK s₁.heap s'.heap∧s'.os=s₁.os∧AllBare s'.gens) s₁:=by
 obtain⟨A,ho,ar⟩:=yr ds vals hwl hpl hwt
 have hO:YT (qe K s₁.heap A):=Tv ar
 have hok0:HOk P w (qe K s₁.heap A) s₁.heap:=XQ ar
 have hS0:=JM KX ar ds vals hwl hpl ho
 have hV:=qd ho
 have hK0: ∀b u,qe K s₁.heap A b=some u→K.lookup b=none:=fun b u q=>(Cy ar q).1
 have hpt:s₁.heap.get? pt=some {cls:= .none,data:= .fields #[]}:=hT.2
 have noS: ∀{b:Addr} {o:Obj},s₁.heap.get? b=some o→(∀vs n,o.data≠ .seq vs n)→qe K s₁.heap A b=none:=fun{b o} e d=>by
  cases q:qe K s₁.heap A b with
  |none=>rfl
  |some u=>
   obtain⟨_,vs,_,_,⟨e2,_⟩|⟨e2,_⟩⟩:=Cy ar q
   ·rw[e2] at e
    cases e
    exact absurd rfl (d _ _)
   ·rw[e2] at e
    cases e
    exact absurd rfl (d _ _)
 have hp0:qe K s₁.heap A pt=none:=noS hpt fun vs n q=>(nomatch q)
 generalize qe K s₁.heap A=Ha at hO hok0 hS0 hK0 noS hp0
 have hsame:Same Ha (upd Ha pt (.tbl #[])):=fun b o e=>by rw[aJ (fun z=>by rw[z,hp0] at e;cases e)];exact e
 have hS:=Dw.sameAll hsame ds _ hS0
 have hok:HOk P w (upd Ha pt (.tbl #[])) s₁.heap:=fun b u e=>by
  by_cases q:b=pt
  ·subst q
   rw[aA] at e
   cases e
   exact hpt
  ·rw[aJ q] at e
   exact(hok0 b u e).stay (fun c o _ z=>z) (fun c z=>hsame _ _ z) fun c xs z=>hsame _ _ z
 have hKp:K.lookup pt=none:=by
  cases q:K.lookup pt with
  |none=>rfl
  |some o=>
   have e:=KX pt o q
   rw[hpt] at e
   cases e
   exact absurd rfl (Ws hnt q)
 have hK: ∀b u,upd Ha pt (.tbl #[]) b=some u→K.lookup b=none:=fun b u e=>by
  by_cases q:b=pt
  ·rw[q];exact hKp
  ·rw[aJ q] at e
   exact hK0 b u e
 have hF0: ∀b u,upd Ha pt (.tbl #[]) b=some u→(∃o v,u= .frz o v)∨(b=pt∧u= .tbl #[]):=fun b u e=>by
  by_cases q:b=pt
  ·subst q
   rw[aA] at e
   cases e
   exact .inr ⟨rfl,rfl⟩
  ·rw[aJ q] at e
   rcases hO b with z|⟨o,v,z⟩
   ·rw[e] at z;cases z
   ·rw[e] at z
    cases z
    exact .inl ⟨o,v,rfl⟩
 have noA: ∀{b:Addr} {o:Obj},s₁.heap.get? b=some o→(∀vs n,o.data≠ .seq vs n)→o.data≠ .fields #[]→upd Ha pt (.tbl #[]) b=none:=fun{b o} e d d2=>by
  by_cases q:b=pt
  ·subst q
   rw[hpt] at e
   cases e
   exact absurd rfl d2
  ·rw[aJ q]
   exact noS e d
 have Z6:upd Ha pt (.tbl #[]) pt=some (.tbl #[]):=aA
 generalize upd Ha pt (.tbl #[])=H at hok hS hK hF0 noA Z6
 have CJ: ∀{b:Addr} {o:Obj},s₁.heap.get? b=some o→H b=none→(Dg s₁.heap H).get? b=some o:=fun e n=>U8 e n
 have nsK: ∀{b:Addr} {m:Str→Option Value},s₁.heap.Ns b m→(Dg s₁.heap H).Ns b m:=fun{b m} ⟨o,es,ep,e,d,r⟩=>⟨o,es,ep,CJ e (noA e (fun vs n q=>by rw[d] at q;cases q) (fun q=>by rw[d] at q;cases q)),d,r⟩
 have nK: ∀b o,K.lookup b=some o→H b=none:=fun b o e=>by
  cases q:H b with
  |none=>rfl
  |some u=>
   rw[hK b u q] at e
   cases e
 have hKb:K.In (Dg s₁.heap H):=fun b o e=>CJ (KX b o e) (nK b o e)
 have hM:Mod K mg (Dg s₁.heap H):=⟨hKb,nsK hns,⟨mb,nsK hb,hbb⟩,let ⟨mc,h1,h2⟩:=hlim;⟨mc,nsK h1,h2⟩⟩
 have hCH:PySem.W.CodeHd (Dg s₁.heap H) ct pt:=by
  obtain⟨o,vs,file,tf,flags,tg,inF,text,tt,e1,e2,e3,e4,e5⟩:=PySem.W.CodeHd.of hC hT
  refine⟨o,vs,file,tf,flags,tg,inF,text,tt,CJ e1 (noA e1 (fun vs n q=>by rw[e3] at q;cases q) fun q=>?_),e2,e3,e4,e5⟩
  rw[e3] at q
  injection q with q
  rw[q] at e4
  cases e4
 have hBM:uo mg (Dg s₁.heap H):=by
  obtain⟨bm,ob,h1,h2,h3,h4,h5,h6⟩:=BM
  exact⟨bm,ob,h1,h2,CJ h3 (noA h3 (fun vs n q=>by rw[h6] at q;cases q) fun q=>by rw[h6] at q;cases q),h4,h5,h6⟩
 have e0:PN P w K mg (Dg s₁.heap H) callerA [] s₁ H:=⟨rfl,hM,fun b o e=>Xh e,Nat.le_of_eq (SM _ _),trivial,fun b hb=>absurd (show b∈([]:List Addr) from hb) (by simp),hok,.of_eq hg⟩
 have hl:vals.length=ps.length:=by rw[ou hwl];exact hlen
 refine codeAny_mono ((F _ hKb (nsK hns) hCH hBM).run callerA [] s₁ H ⟨vals,[]⟩ vals (vals.map toV) _ _ hr e0 (hbind s₁ vals hl) hV (hsp H _ Z6 hS)) fun r s' x=>?_
 cases r with
 |error e=>exact(hCX H e s' x).elim
 |ok fl=>
  cases fl with
  |next=>exact False.elim x
  |brk=>exact False.elim x
  |cont=>exact False.elim x
  |ret u=>
   obtain⟨v,H',os,bare,un,hok',r',q⟩:=x
   have kept: ∀b o,s₁.heap.get? b=some o→b≠pt→s'.heap.get? b=some o:=fun b o e nb=>by
    cases q2:H b with
    |none=>exact un.keep b o e q2 (by intro z;exact absurd (show b∈([]:List Addr) from z) (by simp)) (by simp)
    |some u2=>
     rcases hF0 b u2 q2 with⟨ob,u3,rfl⟩|⟨z,_⟩
     ·have z2:=un.Js b ob _ q2
      obtain⟨e1,_⟩:=hok b _ q2
      obtain⟨e2,_⟩:=hok' b _ z2
      rw[e] at e1
      cases e1
      exact e2
     ·exact absurd z nb
   obtain⟨more,hm⟩:=un.Jt pt _ Z6
   have hpt':s'.heap.get? pt=some {cls:= .none,data:= .fields (#[]++more)}:=hok' pt _ hm
   have KX':K.In s'.heap:=fun b o e=>kept b o (KX b o e) fun z=>by rw[z,hKp] at e;cases e
   obtain⟨as,hrd⟩:=Dw.reads (R:=R) (cl:=cl) hok' KX' d0 v u q r'
   refine⟨u,as,rfl,hrd,⟨fun b o e=>?_,fun b o e=>?_⟩,os,bare⟩
   ·by_cases qb:b=pt
    ·subst qb
     rw[hpt] at e
     cases e
     exact .inr (.inl ⟨hT.isCodeTable,rfl,#[],more,rfl,hpt'⟩)
    ·exact .inl (kept b o e qb)
   ·by_cases qb:b=pt
    ·subst qb
     exact⟨_,hpt'⟩
    ·exact⟨o,kept b o e qb⟩
theorem Qq{r:OpenSpec}{k:Nat}{q:Program}{loose:List Str}{XP:(Str→Option Value)→Heap→Prop}{YP:World→Heap→Prop}{d:DefRec}{K:Params→PySem.W.Frag}{CX:CXT}{ps:List Str}{sp:PySem.W.Frag→Addr→Sp}(nm:Str)
  (abd:r.wellSaid=true) (hdf:d.params.defaults=[]) (hlen:r.args.length=ps.length) (hr:gw k callerA)
  (hY: ∀(w:World) (h:Heap),YP w h→(K w.params).In h) (hnt: ∀w:World,Wr (K w.params)=true) (hrec:((recsOf q).any fun d=>d.name==nm)=true)
  (F: ∀(w:World) (mg:Str→Option Value) (fa:Addr) (h:Heap),YP w h→(K w.params).In h→h.Ns mainGlobals mg→mg d.name=some (.ref fa)→∀(ft:Addr) (ot:Obj) (fdt:FuncData) (ct pt:Addr),mg nm=some (.ref ft)→h.get? ft=some ot→ot.data= .func fdt→fdt.code= .ref ct→
   ∃fd:FuncData,(∀(s:Shared) (us:List Value),us.length=ps.length→BindsTo s fd ⟨us,[]⟩ (ps.zip us))∧
    ∀base:Heap,(K w.params).In base→base.Ns mainGlobals mg→PySem.W.CodeHd base ct pt→uo mg base→bJ r.prog w (K w.params) mg base CX k fa fd ps (sp (K w.params) pt))
  (hsp: ∀(K:PySem.W.Frag) (H:Hp) (pt:Addr) (xs:List V) (a:Codec.denoteAll r.args),H pt=some (.tbl #[])→Codec.withinAll r.args a=true→Codec.app r.args r.asked a=true→oh K H xs (Codec.encAll r.args a)→
   sp K pt xs H (fun v H'=>Dw K H' v (r.ret.enc (Codec.app r.args r.f a))) fun _ _ _=>False)
  (hCX: ∀(H:Hp) (s:Shared) (e:Value) (s':Shared),CX [] H s (fun _ _ _=>False) e s'→False):
  PySem.W.WalkOS q loose XP YP r d [] (fun f vs=>PySem.call f vs):=by
 intro w s_0 s₁ mg mb G Y fa o pm cd doc dV kV ho hd hcd hD hmg hg args vals as hpre hlay hrd hwl hlo
 obtain⟨a,e1,e2⟩:=PySem.W.os_pre_some hpre
 obtain⟨e3,hwi⟩:=Codec.encAll_of_decAll r.args args a e1
 subst e3
 have KX:=hY w _ Y
 obtain⟨dt,hdt,hnm⟩:=List.any_eq_true.mp hrec
 have hnm:dt.name=nm:=by simpa using hnm
 obtain⟨ft,ot,fdt,ct,pt,t1,t2,t3,t4,t5,t6⟩:=G.T.tab dt hdt
 rw[hnm] at t1
 obtain⟨fd,hb,hF⟩:=F w mg fa _ Y KX G.T.g hmg ft ot fdt ct pt t1 t2 t3 t4
 refine PySem.W.enter_call (codeAny_mono (Qp (R:=[]) (cl:=classAt s_0.heap) (d0:=r.ret.enc (Codec.app r.args r.f a)) KX G.T.g G.T.b G.T.builtins G.T.nolimit hg hwl (Im _ _) (DN hlay) hr t5 t6 (hnt w) G.T.bmain hF hb (by rw[DP];exact hlen)
  (fun H xs hO hS=>hsp _ H pt xs a hO hwi e2 hS) fun H e s'=>hCX H s₁ e s') fun r' s' hq=>?_)
 obtain⟨u,as',rfl,h1,h2,h3,h4⟩:=hq
 exact⟨.inl ⟨u,_,as',rfl,fun _=>rfl,h1,(OpenSpec.post_iff abd hwi _ _).mpr rfl,fun z=>Bool.noConfusion (show false=true from z)⟩,h2,h3,h4⟩
end L2
namespace Ft
open PySem PySem.Spec PyProof.Rows L2
def top(i:Nat):Stmt:=PySem.Challenge.pw_formtablesyard_s01_answers.main.body.getD i (.Pass ⟨0,0,0,0⟩)
abbrev oU:Stmt:=top 5
theorem jK:aU ["sizes","cells","size"] ["sizes"] (aO oU):=⟨rfl,rfl,rfl,by decide+kernel,rfl,by decide+kernel,by decide+kernel⟩
abbrev uz:Stmt:=top 6
theorem yx:aU ["sizes","size"] ["sizes"] (aO uz):=⟨rfl,rfl,rfl,by decide+kernel,rfl,by decide+kernel,by decide+kernel⟩
abbrev zW:Stmt:=top 7
theorem Qs:aU ["sizes","values"] ["sizes","values"] (aO zW):=⟨rfl,rfl,rfl,by decide+kernel,rfl,by decide+kernel,by decide+kernel⟩
abbrev mZ:Stmt:=top 8
theorem lM:aU ["sizes","values","size","value"] ["sizes","values"] (aO mZ):=⟨rfl,rfl,rfl,by decide+kernel,rfl,by decide+kernel,by decide+kernel⟩
abbrev oV:Stmt:=top 9
theorem gZ:aU ["sizes","values","cell","size","value"] ["sizes","values"] (aO oV):=⟨rfl,rfl,rfl,by decide+kernel,rfl,by decide+kernel,by decide+kernel⟩
abbrev qT:Stmt:=top 10
theorem d9:aU ["sizes","cells","size","longer","values","value"] ["sizes"] (aO qT):=⟨rfl,rfl,rfl,by decide+kernel,rfl,by decide+kernel,by decide+kernel⟩
abbrev JZ:Stmt:=top 11
theorem Eo:aU ["values","condition","value","asked"] ["values","condition"] (aO JZ):=⟨rfl,rfl,rfl,by decide+kernel,rfl,by decide+kernel,by decide+kernel⟩
abbrev oW:Stmt:=top 12
theorem Ep:aU ["condition"] ["condition"] (aO oW):=⟨rfl,rfl,rfl,by decide+kernel,rfl,by decide+kernel,by decide+kernel⟩
abbrev qU:Stmt:=top 13
theorem oX:aU ["values","told","own","other"] ["values","told"] (aO qU):=⟨rfl,rfl,rfl,by decide+kernel,rfl,by decide+kernel,by decide+kernel⟩
abbrev lN:Stmt:=top 16
theorem eF:aU ["language","group","followed","cell","number","rule"] ["language","group"] (aO lN):=⟨rfl,rfl,rfl,by decide+kernel,rfl,by decide+kernel,by decide+kernel⟩
abbrev fD:Stmt:=top 17
theorem dB:aU ["language","group","rules","line","numbers","number","rule"] ["language","group"] (aO fD):=⟨rfl,rfl,rfl,by decide+kernel,rfl,by decide+kernel,by decide+kernel⟩
abbrev Qt:Stmt:=top 18
theorem Yg:aU ["rule","line"] ["rule","line"] (aO Qt):=⟨rfl,rfl,rfl,by decide+kernel,rfl,by decide+kernel,by decide+kernel⟩
abbrev qW:Stmt:=top 20
theorem je:aU ["tables","cells","differences","many","choice"] ["tables","cells"] (aO qW):=⟨rfl,rfl,rfl,by decide+kernel,rfl,by decide+kernel,by decide+kernel⟩
abbrev jj:Stmt:=top 21
theorem cZ:aU ["tables","differences","place","table","other","bits"] ["tables"] (aO jj):=⟨rfl,rfl,rfl,by decide+kernel,rfl,by decide+kernel,by decide+kernel⟩
abbrev jL:Stmt:=top 22
theorem gB:aU ["table","other","bits","cell"] ["table","other"] (aO jL):=⟨rfl,rfl,rfl,by decide+kernel,rfl,by decide+kernel,by decide+kernel⟩
abbrev oY:Stmt:=top 23
theorem g8:aU ["choice","differences","bits","cell","difference"] ["choice","differences"] (aO oY):=⟨rfl,rfl,rfl,by decide+kernel,rfl,by decide+kernel,by decide+kernel⟩
abbrev jk:Stmt:=top 24
theorem dg:aU ["choice","cells","place","greatest","first"] ["choice","cells"] (aO jk):=⟨rfl,rfl,rfl,by decide+kernel,rfl,by decide+kernel,by decide+kernel⟩
abbrev oZ:Stmt:=top 31
theorem Er:aU ["language","word","values"] ["language","word","values"] (aO oZ):=⟨rfl,rfl,rfl,by decide+kernel,rfl,by decide+kernel,by decide+kernel⟩
abbrev qX:Stmt:=top 33
theorem G6:aU ["form","rule"] ["form","rule"] (aO qX):=⟨rfl,rfl,rfl,by decide+kernel,rfl,by decide+kernel,by decide+kernel⟩
abbrev uD:Stmt:=top 34
theorem J4:aU ["form","rule"] ["form","rule"] (aO uD):=⟨rfl,rfl,rfl,by decide+kernel,rfl,by decide+kernel,by decide+kernel⟩
abbrev qY:Stmt:=top 35
theorem wB:aU ["form","rule","left"] ["form","rule"] (aO qY):=⟨rfl,rfl,rfl,by decide+kernel,rfl,by decide+kernel,by decide+kernel⟩
abbrev j7:Stmt:=top 36
theorem jM:aU ["form","rule","place"] ["form","rule"] (aO j7):=⟨rfl,rfl,rfl,by decide+kernel,rfl,by decide+kernel,by decide+kernel⟩
abbrev m7:Stmt:=top 37
theorem BX:aU ["form","rule"] ["form","rule"] (aO m7):=⟨rfl,rfl,rfl,by decide+kernel,rfl,by decide+kernel,by decide+kernel⟩
abbrev uE:Stmt:=top 39
theorem jN:aU ["rules","stems","followed","form","number","rule"] ["rules","stems","followed"] (aO uE):=⟨rfl,rfl,rfl,by decide+kernel,rfl,by decide+kernel,by decide+kernel⟩
abbrev uF:Stmt:=top 40
theorem yC:aU ["rules","stems","number","stem"] ["rules","stems","number"] (aO uF):=⟨rfl,rfl,rfl,by decide+kernel,rfl,by decide+kernel,by decide+kernel⟩
abbrev uG:Stmt:=inClass (top 50) 0
theorem J5:aU ["self","group","block","condition","doing"] ["self","group","block","condition","doing"] (aO uG):=⟨rfl,rfl,rfl,by decide+kernel,rfl,by decide+kernel,by decide+kernel⟩
abbrev uH:Stmt:=top 51
theorem jO:aU ["group","block","told","condition","doing","rule","k"] ["group","block","told"] (aO uH):=⟨rfl,rfl,rfl,by decide+kernel,rfl,by decide+kernel,by decide+kernel⟩
abbrev wQ:Stmt:=top 52
theorem NK:aU ["sizes","rule"] ["sizes","rule"] (aO wQ):=⟨rfl,rfl,rfl,by decide+kernel,rfl,by decide+kernel,by decide+kernel⟩
abbrev o7:Stmt:=top 53
theorem uI:aU ["rule","greatest"] ["rule"] (aO o7):=⟨rfl,rfl,rfl,by decide+kernel,rfl,by decide+kernel,by decide+kernel⟩
abbrev uJ:Stmt:=top 54
theorem yD:aU ["sizes","rule","part"] ["sizes","rule"] (aO uJ):=⟨rfl,rfl,rfl,by decide+kernel,rfl,by decide+kernel,by decide+kernel⟩
abbrev qZ:Stmt:=top 55
theorem o8:aU ["sizes","rule","cell","values"] ["sizes","rule"] (aO qZ):=⟨rfl,rfl,rfl,by decide+kernel,rfl,by decide+kernel,by decide+kernel⟩
abbrev o9:Stmt:=inClass (top 64) 0
theorem Es:aU ["self","reason","cell","taken"] ["self","reason","cell","taken"] (aO o9):=⟨rfl,rfl,rfl,by decide+kernel,rfl,by decide+kernel,by decide+kernel⟩
abbrev J6:Stmt:=top 65
theorem uK:aU ["language","followed","word","cell","taken","number","rule"] ["language","followed","word","cell"] (aO J6):=⟨rfl,rfl,rfl,by decide+kernel,rfl,by decide+kernel,by decide+kernel⟩
abbrev lO:Stmt:=top 66
theorem qt:aU ["language","followed","word","cell","origin"] ["language","followed","word","cell"] (aO lO):=⟨rfl,rfl,rfl,by decide+kernel,rfl,by decide+kernel,by decide+kernel⟩
abbrev uL:Stmt:=top 67
theorem J7:aU ["form"] ["form"] (aO uL):=⟨rfl,rfl,rfl,by decide+kernel,rfl,by decide+kernel,by decide+kernel⟩
abbrev lQ:Stmt:=top 68
theorem j8:aU ["language","followed","word","cell"] ["language","followed","word"] (aO lQ):=⟨rfl,rfl,rfl,by decide+kernel,rfl,by decide+kernel,by decide+kernel⟩
abbrev rm:Stmt:=top 69
theorem G7:aU ["language","word"] ["language","word"] (aO rm):=⟨rfl,rfl,rfl,by decide+kernel,rfl,by decide+kernel,by decide+kernel⟩
abbrev m8:Stmt:=top 70
theorem eX:aU ["language","word","cell","followed","origin","told","number"] ["language","word","cell"] (aO m8):=⟨rfl,rfl,rfl,by decide+kernel,rfl,by decide+kernel,by decide+kernel⟩
abbrev uM:Stmt:=inClass (top 75) 0
theorem J8:aU ["self","group","stems"] ["self","group","stems"] (aO uM):=⟨rfl,rfl,rfl,by decide+kernel,rfl,by decide+kernel,by decide+kernel⟩
abbrev uN:Stmt:=top 76
theorem yE:aU ["stems","stem"] ["stems"] (aO uN):=⟨rfl,rfl,rfl,by decide+kernel,rfl,by decide+kernel,by decide+kernel⟩
abbrev lR:Stmt:=top 77
theorem zX:aU ["told"] ["told"] (aO lR):=⟨rfl,rfl,rfl,by decide+kernel,rfl,by decide+kernel,by decide+kernel⟩
abbrev pA:Stmt:=top 78
theorem Et:aU ["form"] ["form"] (aO pA):=⟨rfl,rfl,rfl,by decide+kernel,rfl,by decide+kernel,by decide+kernel⟩
abbrev uO:Stmt:=top 80
theorem iB:aU ["language","told","number","values","refusal","word","cell"] ["language","told"] (aO uO):=⟨rfl,rfl,rfl,by decide+kernel,rfl,by decide+kernel,by decide+kernel⟩
abbrev rA:Stmt:=top 81
theorem jf:aU ["language","told","number","table","answered","standing"] ["language","told"] (aO rA):=⟨rfl,rfl,rfl,by decide+kernel,rfl,by decide+kernel,by decide+kernel⟩
abbrev wR:Stmt:=top 82
theorem oE:aU ["language","told","number","values","refusal"] ["language","told"] (aO wR):=⟨rfl,rfl,rfl,by decide+kernel,rfl,by decide+kernel,by decide+kernel⟩
abbrev rB:Stmt:=top 83
theorem jg:aU ["language","told","number","table","alike","standing"] ["language","told"] (aO rB):=⟨rfl,rfl,rfl,by decide+kernel,rfl,by decide+kernel,by decide+kernel⟩
abbrev uP:Stmt:=top 84
theorem fG:aU ["language","told","sought","followed","found","number","word","cell","standing"] ["language","told"] (aO uP):=⟨rfl,rfl,rfl,by decide+kernel,rfl,by decide+kernel,by decide+kernel⟩
abbrev wU:Stmt:=top 85
theorem cU:aU ["language","told","stems","pairs","values","form","asked","groups","group","followed","word","cell"] ["language","told"] (aO wU):=⟨rfl,rfl,rfl,by decide+kernel,rfl,by decide+kernel,by decide+kernel⟩
abbrev rC:Stmt:=top 86
theorem jh:aU ["language","told","stems","tables","group","known_by"] ["language","told"] (aO rC):=⟨rfl,rfl,rfl,by decide+kernel,rfl,by decide+kernel,by decide+kernel⟩
abbrev gC:Stmt:=top 87
theorem fX:aU ["language","group"] ["language"] (aO gC):=⟨rfl,rfl,rfl,by decide+kernel,rfl,by decide+kernel,by decide+kernel⟩
abbrev rE:Stmt:=top 88
theorem lg:aU ["told","pairs","k","values"] ["told"] (aO rE):=⟨rfl,rfl,rfl,by decide+kernel,rfl,by decide+kernel,by decide+kernel⟩
abbrev pB:Stmt:=inClass (top 91) 0
theorem Eu:aU ["self","numbers"] ["self","numbers"] (aO pB):=⟨rfl,rfl,rfl,by decide+kernel,rfl,by decide+kernel,by decide+kernel⟩
abbrev pC:Stmt:=inClass (top 91) 1
theorem Ew:aU ["self"] ["self"] (aO pC):=⟨rfl,rfl,rfl,by decide+kernel,rfl,by decide+kernel,by decide+kernel⟩
abbrev jl:Stmt:=inClass (top 91) 2
theorem vQ:aU ["self"] ["self"] (aO jl):=⟨rfl,rfl,rfl,by decide+kernel,rfl,by decide+kernel,by decide+kernel⟩
abbrev pD:Stmt:=inClass (top 91) 3
theorem Ey:aU ["self"] ["self"] (aO pD):=⟨rfl,rfl,rfl,by decide+kernel,rfl,by decide+kernel,by decide+kernel⟩
abbrev jm:Stmt:=inClass (top 91) 4
theorem mq:aU ["self","many"] ["self"] (aO jm):=⟨rfl,rfl,rfl,by decide+kernel,rfl,by decide+kernel,by decide+kernel⟩
abbrev iT:Stmt:=inClass (top 91) 5
theorem fH:aU ["self","many","k"] ["self"] (aO iT):=⟨rfl,rfl,rfl,by decide+kernel,rfl,by decide+kernel,by decide+kernel⟩
abbrev lU:Stmt:=inClass (top 94) 0
theorem zY:aU ["self"] ["self"] (aO lU):=⟨rfl,rfl,rfl,by decide+kernel,rfl,by decide+kernel,by decide+kernel⟩
abbrev j9:Stmt:=inClass (top 94) 1
theorem yF:aU ["self","sizes"] ["self","sizes"] (aO j9):=⟨rfl,rfl,rfl,by decide+kernel,rfl,by decide+kernel,by decide+kernel⟩
abbrev fY:Stmt:=inClass (top 94) 2
theorem pF:aU ["self"] ["self"] (aO fY):=⟨rfl,rfl,rfl,by decide+kernel,rfl,by decide+kernel,by decide+kernel⟩
abbrev ig:Stmt:=inClass (top 94) 3
theorem tE:aU ["self","group"] ["self","group"] (aO ig):=⟨rfl,rfl,rfl,by decide+kernel,rfl,by decide+kernel,by decide+kernel⟩
abbrev iU:Stmt:=inClass (top 94) 4
theorem uQ:aU ["self","rule"] ["self","rule"] (aO iU):=⟨rfl,rfl,rfl,by decide+kernel,rfl,by decide+kernel,by decide+kernel⟩
abbrev iV:Stmt:=inClass (top 94) 5
theorem uR:aU ["self","word"] ["self","word"] (aO iV):=⟨rfl,rfl,rfl,by decide+kernel,rfl,by decide+kernel,by decide+kernel⟩
abbrev eO:Stmt:=inClass (top 94) 6
theorem mJ:aU ["self"] ["self"] (aO eO):=⟨rfl,rfl,rfl,by decide+kernel,rfl,by decide+kernel,by decide+kernel⟩
abbrev lV:Stmt:=inClass (top 94) 7
theorem kh:aU ["self","group","groups"] ["self","group"] (aO lV):=⟨rfl,rfl,rfl,by decide+kernel,rfl,by decide+kernel,by decide+kernel⟩
abbrev wV:Stmt:=top 100
theorem Bv:aU ["language","told","sizes"] ["language","told"] (aO wV):=⟨rfl,rfl,rfl,by decide+kernel,rfl,by decide+kernel,by decide+kernel⟩
abbrev rF:Stmt:=top 101
theorem wC:aU ["language","told","parent"] ["language","told"] (aO rF):=⟨rfl,rfl,rfl,by decide+kernel,rfl,by decide+kernel,by decide+kernel⟩
abbrev uT:Stmt:=top 102
theorem mK:aU ["language","told","group","block","rule"] ["language","told"] (aO uT):=⟨rfl,rfl,rfl,by decide+kernel,rfl,by decide+kernel,by decide+kernel⟩
abbrev uU:Stmt:=top 103
theorem yG:aU ["language","told","rule"] ["language","told"] (aO uU):=⟨rfl,rfl,rfl,by decide+kernel,rfl,by decide+kernel,by decide+kernel⟩
abbrev uV:Stmt:=top 104
theorem rG:aU ["language","told","group","stems"] ["language","told"] (aO uV):=⟨rfl,rfl,rfl,by decide+kernel,rfl,by decide+kernel,by decide+kernel⟩
abbrev wW:Stmt:=top 105
theorem jz:aU ["language","told","number","values","form","refusal","word"] ["language","told"] (aO wW):=⟨rfl,rfl,rfl,by decide+kernel,rfl,by decide+kernel,by decide+kernel⟩
abbrev rH:Stmt:=top 106
theorem gK:aU ["language","told","number","values","refusal","word","cell"] ["language","told"] (aO rH):=⟨rfl,rfl,rfl,by decide+kernel,rfl,by decide+kernel,by decide+kernel⟩
abbrev Qu:Stmt:=top 107
theorem Yh:aU ["kept","thing","most"] ["kept","thing","most"] (aO Qu):=⟨rfl,rfl,rfl,by decide+kernel,rfl,by decide+kernel,by decide+kernel⟩
abbrev uW:Stmt:=top 109
theorem Uh:aU ["language","call","told"] ["language","call","told"] (aO uW):=⟨rfl,rfl,rfl,by decide+kernel,rfl,by decide+kernel,by decide+kernel⟩
abbrev iC:Stmt:=top 110
theorem jo:aU ["calls","language","reader","answered","call","told","given"] ["calls"] (aO iC):=⟨rfl,rfl,rfl,by decide+kernel,rfl,by decide+kernel,by decide+kernel⟩
structure Txt(K:PySem.W.Frag)(mg:Str→Option Value)(aD aK aH au aj:Addr):Prop where
 bC:Cls K aD
 rJ:dh K aD "group"
 mL:dh K aD "block"
 iD:dh K aD "condition"
 fJ:dh K aD "doing"
 dG:dh K aD "number"
 dH:dh K aD "lists"
 rK:dh K aD "cells"
 m9:dh K aD "sources"
 eY:Cls K aK
 eZ:dh K aK "reason"
 lu:dh K aK "cell"
 uX:dh K aK "taken"
 iG:Cls K aH
 jP:dh K aH "group"
 yH:dh K aH "stems"
 eG:dh K aH "odd_forms"
 cM:Cls K au
 iH:dh K au "numbers"
 eU:dh K au "place"
 ni:dh K au "ran_short"
 aR:Cls K aj
 bM:dh K aj "sizes"
 dD:dh K aj "parents"
 cF:dh K aj "rules"
 cu:dh K aj "words"
 cV:mg "len"=none
 iI:mg "range"=none
 RX:mg "zip"=none
 jA:mg "enumerate"=none
 Qv:mg "list"=none
 Wt:mg "sorted"=none
 YZ:mg "all"=none
 abe:mg "set"=none
 Ez:GI mg "ANY" (-1)
 lW:GI mg "MOST_FEATURES" (4)
 pG:GI mg "MOST_VALUES" (8)
 rM:GI mg "MOST_CELLS" (64)
 EY:GI mg "BLOCKS" (6)
 cX:GI mg "NOT_AS_ASKED" (-1)
 fK:GI mg "NOT_THERE" (-2)
 zZ:GI mg "NOT_ODD" (-3)
 pH:GI mg "NO_FEATURES" (-4)
 Qw:GI mg "FULL" (-5)
 rN:GI mg "PUT_BEHIND" (0)
 iJ:GI mg "TAKE_FROM_CELL" (6)
 vM:GI mg "NO_FORM" (7)
 Fb:GT K mg "FIRST_BLOCKS" [.int (2),.int (2),.int (2),.int (2),.int (2),.int (1),.int (0),.int (0)]
 G8:GT K mg "LAST_BLOCKS" [.int (5),.int (5),.int (5),.int (5),.int (5),.int (1),.int (0),.int (0)]
 nj:GT K mg "GREATEST_NUMBERS" [.non,.non,.int (8),.non,.int (8),.int (3),.non,.non]
 Hf:GT K mg "LIST_COUNTS" [.int (1),.int (1),.int (1),.int (2),.int (0),.int (0),.int (1),.int (0)]
 jQ:GI mg "MOST_LIST_BYTES" (16)
 iK:GI mg "STANDS_NOTHING" (0)
 lA:GI mg "STANDS_FORM" (1)
 pI:GI mg "STANDS_RING" (2)
 RZ:GI mg "ODD" (0)
 gU:GI mg "SAID_TO_BE_NONE" (1)
 J9:GI mg "MADE" (2)
 Ka:GI mg "RING" (3)
 rO:GI mg "MOST_STEMS" (4)
 jR:GI mg "MOST_STEM_BYTES" (32)
 kj:GI mg "MOST_ODD_BYTES" (64)
 oG:GI mg "NO_PARENT" (-1)
 pJ:GI mg "MOST_GROUPS" (16)
 rP:GI mg "MOST_RULES" (200)
 rQ:GI mg "MOST_WORDS" (64)
 Wu:GI mg "NEW" (0)
abbrev LPos:Pos:=⟨62,31,62,71⟩
abbrev abf:Str:=(("list_weakest_first":Str)++".<locals>.")++"<lambda>"
abbrev iv(zs:List Int):List V:=zs.map V.int
abbrev nv(ds:List Nat):List V:=(ds.map Int.ofNat).map V.int
theorem cI{α:Type}{l:List α}{i:Nat}{x:α}(h:l[i]?=some x):l.take (i+1)=l.take i++[x]:=by
 rw[List.take_succ,h];rfl
theorem Ui(l:List Nat)(z:Nat):Sx03.product (l++[z])=Sx03.product l * z:=by
 induction l with
 |nil=>show z * 1=1 * z;omega
 |cons a r ih=>show a * Sx03.product (r++[z])=a * Sx03.product r * z;rw[ih,Nat.mul_assoc]
section
variable{P:Program}{w:World}{K:PySem.W.Frag}{mg:Str→Option Value}{base:Heap}{au aD aj aH aK:Addr}{f:Addr}{fd:FuncData}
def yI(K:PySem.W.Frag):Sp:=fun vs H Q _=>∃a ds,vs=[.ref a]∧SqL K H a (nv ds)∧(∀n∈ds,n≤8)∧∀H',Same H H'→Q (.int (Sx03.product ds:Nat)) H'
theorem Fd(F:Fun K "count_cells" "count_cells" oU f fd)(T:Txt K mg aD aK aH au aj):bJ P w K mg base CX0 1 f fd ["sizes"] (yI K):=by
 refine F.ok jK (fun vs H Q E h=>?_) (fun cdv A outer s H vs Q E hr h=>?_)
 ·obtain⟨a,ns,rfl,_⟩:=h
  rfl
 ·obtain⟨a,ds,rfl,hS,hb,k⟩:=h
  refine⟨_,(aB (aX (i:=1) jK.nd rfl (by first|exact Or.inl rfl|exact Or.inr rfl) bB)
   (aB (dU PassesOwn.never rfl (eV (pv 0)) (bF (i:=2) jK.nd rfl (by first|exact Or.inl rfl|exact Or.inr rfl))
   (aF (zH (i:=1) jK.nd rfl (by first|exact Or.inl rfl|exact Or.inr rfl) (pv 2) ZX)))
   (aF (aP (pv 1))))),?_⟩
  refine⟨_,rfl,a,rfl,⟨_,hS⟩,DR (K:=K) (a:=a) (ns:=ds.map Int.ofNat) (fun i σ H'=>∃v,σ=[some (.ref a),some (.int (Sx03.product (ds.take i):Nat)),v]) hS ⟨none,rfl⟩ ?_ ?_⟩
  ·rintro i z σ H' hz hH ⟨v,rfl⟩
   obtain⟨n,hn,rfl⟩:=bO hz
   have hz2:=hb n (List.mem_of_getElem? hn)
   refine⟨_,rfl,_,rfl,_,_,rfl,rfl,.inr ⟨?_,?_⟩,hH,?_⟩
   ·show -(2 ^ 64:Int)<(n:Int);omega
   ·show(n:Int)<(2 ^ 64:Int);omega
   ·refine⟨some (.int n),?_⟩
    rw[cI hn,Ui]
    rfl
  ·rintro σ H' hH ⟨v,rfl⟩
   refine⟨_,rfl,?_⟩
   rw[List.length_map,List.take_length]
   exact k H' hH
def Kc(K:PySem.W.Frag):Sp:=fun vs H Q _=>∃a ds,vs=[.ref a]∧SqL K H a (nv ds)∧∀H',Same H H'→Q (.bl (Sx03.dimsOk ds)) H'
theorem Kd(F:Fun K "are_sizes" "are_sizes" uz f fd)(T:Txt K mg aD aK aH au aj)(dI:GF P w K mg base "count_cells" 1 ["sizes"] (yI K)):bJ P w K mg base CX0 2 f fd ["sizes"] (Kc K):=by
 refine F.ok yx (fun vs H Q E h=>?_) (fun cdv A outer s H vs Q E hr h=>?_)
 ·obtain⟨a,ns,rfl,_⟩:=h
  rfl
 ·obtain⟨a,ds,rfl,hS,k⟩:=h
  have hl:(nv ds).length=ds.length:=by rw[List.length_map,List.length_map]
  refine⟨_,(aB (bI (xX (aY mW (bA aV (by rfl) T.cV PySem.boot_len (ak (pv 0) aC)) bB (bx _)) (qM (aY tY (bA aV (by rfl) T.cV PySem.boot_len (ak (pv 0) aC)) (bW T.lW) (bx _)))).pt (aF (aP jD)) aZ)
   (aB (dU PassesOwn.never rfl (eV (pv 0)) (bF (i:=1) yx.nd rfl (by first|exact Or.inl rfl|exact Or.inr rfl))
   (aF (bI (xX (aY mW (pv 1) bB (bx _)) (qM (aY tY (pv 1) (bW T.pG) (bx _)))).pt (aF (aP jD)) aZ)))
   (aF (aP (nW Dr (aQ dI (hr.mono (by decide)) (ak (pv 0) aC)) (bW T.rM) (bx _)))))),?_⟩
  have no:Sx03.dimsOk ds=false→Q (.bl false) H:=fun e=>by rw[e] at k;exact k H (Same.refl H)
  refine⟨_,rfl,_,_,rfl,.inl hS,_,_,rfl,rfl,_,rfl,gA (fun c=>cB (no ?_)) (fun c=>⟨_,rfl,_,_,rfl,.inl hS,_,_,rfl,rfl,_,rfl,gA (fun c'=>no ?_) (fun c'=>?_)⟩)⟩
  ·have c:((nv ds).length:Int)<1:=of_decide_eq_true c
   unfold Sx03.dimsOk
   rw[show decide (1≤ds.length)=false from decide_eq_false (by omega)]
   rfl
  ·have c':(4:Int)<((nv ds).length:Int):=of_decide_eq_true c'
   unfold Sx03.dimsOk
   rw[show decide (ds.length≤4)=false from decide_eq_false (by omega),Bool.false_and,Bool.and_false]
  ·have c: ¬((nv ds).length:Int)<1:=fun q=>c (decide_eq_true q)
   have c': ¬(4:Int)<((nv ds).length:Int):=fun q=>c' (decide_eq_true q)
   refine⟨_,rfl,a,rfl,⟨_,hS⟩,DR (K:=K) (a:=a) (ns:=ds.map Int.ofNat) (fun i σ H'=>∃v,σ=[some (.ref a),v]∧∀n∈ds.take i,1≤n∧n≤8) hS ⟨none,rfl,fun n h=>by cases h⟩ ?_ ?_⟩
   ·rintro i z σ H' hz hH ⟨v,rfl,hv⟩
    obtain⟨n,hn,rfl⟩:=bO hz
    have no2:(¬(1≤n∧n≤8))→Q (.bl false) H':=fun q=>by
     have e:Sx03.dimsOk ds=false:=by
      unfold Sx03.dimsOk
      rw[show(ds.all fun n=>decide (1≤n)&&decide (n≤8))=false by
       rw[List.all_eq_false]
       exact⟨n,List.mem_of_getElem? hn,by simpa using q⟩,Bool.false_and,Bool.and_false,Bool.and_false]
     rw[e] at k
     exact k H' hH
    refine⟨_,rfl,_,_,rfl,rfl,_,rfl,gA (fun d=>cB (no2 ?_)) (fun d=>⟨_,rfl,_,_,rfl,rfl,_,rfl,gA (fun d'=>no2 ?_) (fun d'=>?_)⟩)⟩
    ·have d:(n:Int)<1:=of_decide_eq_true d
     omega
    ·have d':(8:Int)<(n:Int):=of_decide_eq_true d'
     omega
    ·have d: ¬(n:Int)<1:=fun q=>d (decide_eq_true q)
     have d': ¬(8:Int)<(n:Int):=fun q=>d' (decide_eq_true q)
     refine⟨hH,some (.int n),rfl,fun m hm=>?_⟩
     rw[cI hn] at hm
     rcases List.mem_append.mp hm with hm|hm
     ·exact hv m hm
     ·have e:m=n:=List.mem_singleton.mp hm
      omega
   ·rintro σ H' hH ⟨v,rfl,hv⟩
    rw[List.length_map,List.take_length] at hv
    refine⟨_,rfl,a,ds,rfl,hH.seq hS,fun n hn=>(hv n hn).2,fun H2 h2=>⟨_,_,rfl,rfl,?_⟩⟩
    have e:decide ((Sx03.product ds:Int)≤64)=Sx03.dimsOk ds:=by
     unfold Sx03.dimsOk
     rw[show decide (1≤ds.length)=true from decide_eq_true (by omega),show decide (ds.length≤4)=true from decide_eq_true (by omega),show(ds.all fun n=>decide (1≤n)&&decide (n≤8))=true by
      rw[List.all_eq_true]
      exact fun n hn=>by simpa using hv n hn,Bool.true_and,Bool.true_and,Bool.true_and]
     exact decide_eq_decide.mpr (by omega)
    show Q (.bl (decide ((Sx03.product ds:Int)≤64))) H2
    rw[e]
    exact k H2 (hH.trans h2)
def condB(ds:List Nat)(zs:List Int):Bool:=zs.length==ds.length&&(zs.zip ds).all fun x=>decide (-1≤x.1)&&decide (x.1<x.2)
theorem mR{ds:List Nat}{zs:List Int}:condB ds zs=true↔zs.length=ds.length∧∀(i:Nat) (z:Int) (n:Nat),zs[i]?=some z→ds[i]?=some n→ -1≤z∧z<n:=by
 unfold condB
 rw[Bool.and_eq_true,beq_iff_eq,List.all_eq_true]
 constructor
 ·rintro⟨h1,h2⟩
  refine⟨h1,fun i z n hz hn=>?_⟩
  have hm:(z,n)∈zs.zip ds:=List.mem_of_getElem? (i:=i) (by rw[List.getElem?_zip_eq_some];exact⟨hz,hn⟩)
  simpa using h2 _ hm
 ·rintro⟨h1,h2⟩
  refine⟨h1,fun x hx=>?_⟩
  obtain⟨i,hi⟩:=List.mem_iff_getElem?.mp hx
  rw[List.getElem?_zip_eq_some] at hi
  simpa using h2 i _ _ hi.1 hi.2
def lG(K:PySem.W.Frag):Sp:=fun vs H Q _=>∃a b ds zs,vs=[.ref a,.ref b]∧SqL K H a (nv ds)∧SqL K H b (iv zs)∧∀H',Same H H'→Q (.bl (condB ds zs)) H'
theorem BZ(F:Fun K "is_condition" "is_condition" mZ f fd)(T:Txt K mg aD aK aH au aj):bJ P w K mg base CX0 1 f fd ["sizes","values"] (lG K):=by
 refine F.ok lM (fun vs H Q E h=>?_) (fun cdv A outer s H vs Q E hr h=>?_)
 ·obtain⟨a,b,ds,zs,rfl,_⟩:=h
  rfl
 ·obtain⟨a,b,ds,zs,rfl,hA,hB,k⟩:=h
  have hl:(nv ds).length=ds.length:=by rw[List.length_map,List.length_map]
  have hl2:(iv zs).length=zs.length:=List.length_map ..
  refine⟨_,(aB (bI (aY Dq (bA aV (by rfl) T.cV PySem.boot_len (ak (pv 1) aC)) (bA aV (by rfl) T.cV PySem.boot_len (ak (pv 0) aC)) (bx _)) (aF (aP jD)) aZ)
   (aB (dU PassesOwn.never rfl (JK (by rfl) T.RX (ak (pv 0) (ak (pv 1) aC))) (qN rfl (dz (bF (i:=2) lM.nd rfl (by first|exact Or.inl rfl|exact Or.inr rfl)) (dz (bF (i:=3) lM.nd rfl (by first|exact Or.inl rfl|exact Or.inr rfl)) mC)))
   (aF (bI (xX (aY mW (pv 3) (bW T.Ez) (bx _)) (qM (aY Mr (pv 3) (pv 2) (bx _)))).pt (aF (aP jD)) aZ)))
   (aF (aP jD)))),?_⟩
  refine⟨_,rfl,_,_,rfl,.inl hB,_,rfl,_,_,rfl,.inl hA,rfl,_,rfl,gA (fun c=>?_) (fun c=>?_)⟩
  ·have e:condB ds zs=false:=by
    rw[←Bool.not_eq_true,mR]
    rintro⟨q,_⟩
    have c: ¬((V.int ((iv zs).length:Nat))=V.int ((nv ds).length:Nat)):=by simpa using c
    rw[hl,hl2,q] at c
    exact c rfl
   rw[e] at k
   exact k H (Same.refl H)
  ·have c:(V.int ((iv zs).length:Nat))=V.int ((nv ds).length:Nat):=by simpa using c
   have c:zs.length=ds.length:=by
    rw[hl,hl2] at c
    injection c with c
    omega
   refine⟨_,rfl,_,rfl,a,b,_,_,rfl,hA,hB,DW (K:=K) (xs:=ds.map Int.ofNat) (ys:=zs) (fun i σ H'=>∃u v,σ=[some (.ref a),some (.ref b),u,v]∧∀(j:Nat) (z:Int) (n:Nat),j<i→zs[j]?=some z→ds[j]?=some n→ -1≤z∧z<n) hA hB ⟨none,none,rfl,fun j z n h=>absurd h (Nat.not_lt_zero j)⟩ ?_ ?_⟩
   ·rintro i x y Tp σ H' hx hy hT hH H'' hn rfl ⟨u,v,rfl,hv⟩
    obtain⟨n,hn',rfl⟩:=bO hx
    refine⟨Tp,_,rfl,SqT.of hT,rfl,_,_,rfl,_,_,rfl,rfl,?_⟩
    have no: ¬(-1≤y∧y<n)→Q (.bl false) _:=fun q=>by
     have e:condB ds zs=false:=by
      rw[←Bool.not_eq_true,mR]
      exact fun z=>q (z.2 i y n hy hn')
     rw[e] at k
     exact k _ hH
    refine⟨_,rfl,_,_,rfl,rfl,_,rfl,gA (fun d=>cB (no ?_)) (fun d=>⟨_,rfl,_,rfl,_,_,rfl,rfl,_,rfl,gA (fun d'=>no ?_) (fun d'=>?_)⟩)⟩
    ·have d:y< -1:=of_decide_eq_true d
     omega
    ·have d':(n:Int)≤y:=of_decide_eq_true d'
     omega
    ·have d: ¬y< -1:=fun q=>d (decide_eq_true q)
     have d': ¬(n:Int)≤y:=fun q=>d' (decide_eq_true q)
     refine⟨hH,some (.int n),some (.int y),rfl,fun j z m hj hz hm=>?_⟩
     by_cases e:j=i
     ·subst e
      rw[hy] at hz
      rw[hn'] at hm
      cases hz
      cases hm
      omega
     ·exact hv j z m (by omega) hz hm
   ·rintro σ H' hH ⟨u,v,rfl,hv⟩
    have e:condB ds zs=true:=mR.mpr ⟨c,fun i z n hz hn=>hv i z n (by
     have h1:=(List.getElem?_eq_some_iff.mp hz).1
     rw[List.length_map]
     omega) hz hn⟩
    rw[e] at k
    exact k H' hH
theorem Qx{ds c:List Nat}:condB ds (c.map Int.ofNat)=Sx03.isCell ds c:=by
 rw[Bool.eq_iff_iff,mR,Fs.j5,List.length_map]
 refine and_congr_right fun _=>⟨fun h i v n hv hn=>?_,fun h i z n hz hn=>?_⟩
 ·have:=h i v n (by rw[List.getElem?_map,hv];rfl) hn
  omega
 ·obtain⟨v,hv,rfl⟩:=bO hz
  have:=h i v n hv hn
  show(-1:Int)≤(v:Int)∧(v:Int)<n
  omega
theorem yJ(zs:List Int):(iv zs).all nY=true:=by
 rw[List.all_eq_true]
 intro x hx
 obtain⟨z,_,rfl⟩:=List.mem_map.mp hx
 rfl
theorem Ke{z:Int}{zs:List Int}:inV (.int z) (iv zs)=decide (z∈zs):=by
 rw[Bool.eq_iff_iff,decide_eq_true_eq]
 unfold inV
 rw[List.any_eq_true]
 constructor
 ·rintro⟨x,hx,h⟩
  obtain⟨y,hy,rfl⟩:=List.mem_map.mp hx
  have e:y=z:=by simpa [eqV] using h
  rw[←e];exact hy
 ·intro h
  exact⟨.int z,List.mem_map.mpr ⟨z,h,rfl⟩,by simp[eqV]⟩
def Kf(K:PySem.W.Frag):Sp:=fun vs H Q _=>∃a b ds c,vs=[.ref a,.ref b]∧SqL K H a (nv ds)∧SqL K H b (nv c)∧∀H',Same H H'→Q (.bl (Sx03.isCell ds c)) H'
theorem Qy(F:Fun K "is_cell" "is_cell" zW f fd)(T:Txt K mg aD aK aH au aj)(cY:GF P w K mg base "is_condition" 1 ["sizes","values"] (lG K)):bJ P w K mg base CX0 2 f fd ["sizes","values"] (Kf K):=by
 refine F.ok Qs (fun vs H Q E h=>?_) (fun cdv A outer s H vs Q E hr h=>?_)
 ·obtain⟨a,b,ds,c,rfl,_⟩:=h
  rfl
 ·obtain⟨a,b,ds,c,rfl,hA,hB,k⟩:=h
  refine⟨_,(aF (aP (Pu (nW qO (bW T.Ez) (pv 1) rfl) (Dj (aQ cY (hr.mono (by decide)) (ak (pv 0) (ak (pv 1) aC))))))),?_⟩
  have e:(if true=true then !inV (.int (-1)) (nv c) else inV (.int (-1)) (nv c))=true:=by
   rw[if_pos rfl,Ke]
   have: ¬(-1:Int)∈c.map Int.ofNat:=fun h=>by
    obtain⟨n,_,q⟩:=List.mem_map.mp h
    have q:(n:Int)= -1:=q
    omega
   rw[decide_eq_false this]
   rfl
  refine⟨_,rfl,b,_,rfl,.inl hB,rfl,yJ _,_,rfl,?_⟩
  rw[e]
  refine cB ⟨_,rfl,_,rfl,a,b,ds,_,rfl,hA,hB,fun H' hH=>?_⟩
  rw[Qx]
  exact k H' hH
def jT(K:PySem.W.Frag):Sp:=fun vs H Q _=>∃a b ds c,vs=[.ref a,.ref b]∧SqL K H a (nv ds)∧SqL K H b (nv c)∧Sx03.isCell ds c=true∧(∀n∈ds,n≤8)∧∀H',Same H H'→Q (.int (Fs.num ds c:Nat)) H'
theorem Fe(F:Fun K "number_cell" "number_cell" oV f fd)(T:Txt K mg aD aK aH au aj):bJ P w K mg base CX0 1 f fd ["sizes","values"] (jT K):=by
 refine F.ok gZ (fun vs H Q E h=>?_) (fun cdv A outer s H vs Q E hr h=>?_)
 ·obtain⟨a,b,ds,c,rfl,_⟩:=h
  rfl
 ·obtain⟨a,b,ds,c,rfl,hA,hB,hc,hb,k⟩:=h
  have hlen:=(Fs.j5.mp hc).1
  refine⟨_,(aB (aX (i:=2) gZ.nd rfl (by first|exact Or.inl rfl|exact Or.inr rfl) bB)
   (aB (dU PassesOwn.never rfl (JK (by rfl) T.RX (ak (pv 0) (ak (pv 1) aC))) (qN rfl (dz (bF (i:=3) gZ.nd rfl (by first|exact Or.inl rfl|exact Or.inr rfl)) (dz (bF (i:=4) gZ.nd rfl (by first|exact Or.inl rfl|exact Or.inr rfl)) mC)))
   (aF (aX (i:=2) gZ.nd rfl (by first|exact Or.inl rfl|exact Or.inr rfl) (dF Jv (dF Zt (pv 2) (pv 3)) (pv 4)))))
   (aF (aP (pv 2))))),?_⟩
  refine⟨_,rfl,_,rfl,a,b,_,_,rfl,hA,hB,DW (K:=K) (xs:=ds.map Int.ofNat) (ys:=c.map Int.ofNat) (fun i σ H'=>∃u v,σ=[some (.ref a),some (.ref b),some (.int (((ds.zip c).take i).foldl (fun n x=>n * x.1+x.2) 0:Nat)),u,v]) hA hB ⟨none,none,rfl⟩ ?_ ?_⟩
  ·rintro i x y Tp σ H' hx hy hT hH H'' hn rfl ⟨u,v,rfl⟩
   obtain⟨n,hn',rfl⟩:=bO hx
   obtain⟨d,hd',rfl⟩:=bO hy
   have hn8:=hb n (List.mem_of_getElem? hn')
   refine⟨Tp,_,rfl,SqT.of hT,rfl,_,_,rfl,_,_,rfl,rfl,?_⟩
   refine⟨_,rfl,_,rfl,_,_,rfl,rfl,.inr ⟨?_,?_⟩,_,rfl,_,_,rfl,rfl,hH,some (.int n),some (.int d),?_⟩
   ·show -(2 ^ 64:Int)<(n:Int);omega
   ·show(n:Int)<(2 ^ 64:Int);omega
   ·have hz:(ds.zip c)[i]?=some (n,d):=by rw[List.getElem?_zip_eq_some];exact⟨hn',hd'⟩
    rw[cI hz,List.foldl_append]
    rfl
  ·rintro σ H' hH ⟨u,v,rfl⟩
   refine⟨_,rfl,?_⟩
   have e:(ds.zip c).take (min (ds.map Int.ofNat).length (c.map Int.ofNat).length)=ds.zip c:=by
    rw[List.length_map,List.length_map,←List.length_zip,List.take_length]
   rw[e,Fs.Nk 0 hc,Nat.zero_mul,Nat.zero_add]
   exact k H' hH
end
def rf(a:Addr)(p:Int)(b:Bool):List (Str×V):=[("numbers",.ref a),("place",.int p),("ran_short",.bl b)]
theorem wX{a:Addr}{p:Int}{b:Bool}:(rf a p b).lookup ("numbers":Str)=some (.ref a):=by rfl
theorem qu{a:Addr}{p:Int}{b:Bool}:(rf a p b).lookup ("place":Str)=some (.int p):=by rfl
theorem Kg{a:Addr}{p:Int}{b:Bool}:(rf a p b).lookup ("ran_short":Str)=some (.bl b):=by rfl
theorem dN{a:Addr}{p:Int}{b:Bool}:(rf a p b).lookup ("take":Str)=none:=by rfl
theorem cG{a:Addr}{p:Int}{b:Bool}:(rf a p b).lookup ("take_list":Str)=none:=by rfl
theorem pK{a:Addr}{p:Int}{b:Bool}:(rf a p b).lookup ("take_lists":Str)=none:=by rfl
theorem CK{a:Addr}{p:Int}{b:Bool}:(rf a p b).lookup ("left":Str)=none:=by rfl
theorem Kh{a:Addr}{p:Int}{b:Bool}:(rf a p b).lookup ("all_taken":Str)=none:=by rfl
theorem Wv{a:Addr}{p q:Int}{b:Bool}:iY "place" (.int q) (rf a p b)=rf a q b:=by rfl
def gG(K:PySem.W.Frag)(c:Addr)(H:Hp)(r a:Addr)(ns rest:List Int):Prop:=
 ∃dx,∃p:Nat,H r=some (.ins c dx (rf a p false))∧SqL K H a (iv ns)∧ns.drop p=rest∧p≤ns.length
theorem gG.same{K:PySem.W.Frag}{c:Addr}{H H':Hp}{r a:Addr}{ns rest:List Int}(h:gG K c H r a ns rest)(k:Same H H'):gG K c H' r a ns rest:=by
 obtain⟨dx,p,h1,h2,h3,h4⟩:=h
 exact⟨dx,p,k _ _ h1,k.seq h2,h3,h4⟩
theorem gG.ins{K:PySem.W.Frag}{c:Addr}{H:Hp}{r a:Addr}{ns rest:List Int}(h:gG K c H r a ns rest): ∃dx fs,H r=some (.ins c dx fs):=by
 obtain⟨dx,p,h1,_⟩:=h
 exact⟨dx,_,h1⟩
theorem jB{H:Hp}{x dx C:Addr}(nx:H x=Option.none)(nd:H dx=Option.none)(ne:dx≠x):Same H (upd (upd H dx (.own x)) x (.ins C dx [])):=
 (Same.new nd).trans (Same.new (by rw[aJ (Ne.symm ne)];exact nx))
theorem _root_.L2.SqL.later{K:PySem.W.Frag}{H H':Hp}{b D C dx:Addr}{fs:List (Str×V)}{a:Addr}{xs:List V}{o:HO}(h:SqL K H a xs)(k:aL [b] H H')(n:H b=some (.ins C dx fs))(hD:H D=Option.none):SqL K (upd H' D o) a xs:=by
 rcases h with(h|⟨ob,h⟩)|h
 ·refine .inl (.inl ?_)
  rw[aJ (aG h hD)]
  exact k a _ h (by simpa using d8 h n (fun q=>nomatch q))
 ·refine .inl (.inr ⟨ob,?_⟩)
  rw[aJ (aG h hD)]
  exact k a _ h (by simpa using d8 h n (fun q=>nomatch q))
 ·exact .inr h
theorem drop_cons{α:Type}{l:List α}{p:Nat}{z:α}{r:List α}(h:l.drop p=z::r):l[p]?=some z∧l.drop (p+1)=r∧p<l.length:=by
 have hp:p<l.length:=by
  by_cases q:p<l.length
  ·exact q
  ·rw[List.drop_eq_nil_of_le (by omega)] at h;cases h
 rw[List.drop_eq_getElem_cons hp] at h
 injection h with h1 h2
 exact⟨by rw[List.getElem?_eq_getElem hp,h1],h2,hp⟩
section
variable{P:Program}{w:World}{K:PySem.W.Frag}{mg:Str→Option Value}{base:Heap}{au aD aj aH aK:Addr}{f:Addr}{fd:FuncData}
def Kl(K:PySem.W.Frag)(c:Addr):Sp:=fun vs H Q _=>∃(x dx a:Addr) (ns:List Int),vs=[.ref x,.ref a]∧H x=some (.ins c dx [])∧SqL K H a (iv ns)∧∀H',aL [x] H H'→gG K c H' x a ns ns→Q .non H'
theorem Fg(F:Fun K "__init__" "Reader.__init__" pB f fd)(T:Txt K mg aD aK aH au aj):bJ P w K mg base CX0 1 f fd ["self","numbers"] (Kl K au):=by
 refine F.ok Eu (fun vs H Q E h=>?_) (fun cdv A outer s H vs Q E hr h=>?_)
 ·obtain⟨x,dx,a,ns,rfl,_⟩:=h
  rfl
 ·obtain⟨x,dx,a,ns,rfl,hx,hS,k⟩:=h
  refine⟨_,(aB (dX (pv 0) (pv 1) rfl)
   (aB (dX (pv 0) bB rfl)
   (aF (dX (pv 0) jD rfl)))),?_⟩
  refine⟨_,rfl,_,rfl,x,_,dx,_,rfl,hx,T.cM,T.iH,(by show 0<1000;decide),?_⟩
  refine⟨_,rfl,x,_,dx,_,rfl,aA,T.cM,T.eU,(by show 1<1000;decide),?_⟩
  refine⟨_,rfl,x,_,dx,_,rfl,aA,T.cM,T.ni,(by show 2<1000;decide),?_⟩
  have kp:aL [x] H (upd (upd (upd H x (.ins au dx (iY "numbers" (.ref a) []))) x (.ins au dx (iY "place" (.int 0) (iY "numbers" (.ref a) [])))) x (.ins au dx (iY "ran_short" (.bl false) (iY "place" (.int 0) (iY "numbers" (.ref a) []))))):=
   ((aL.upd List.mem_cons_self).trans (aL.upd List.mem_cons_self)).trans (aL.upd List.mem_cons_self)
  exact k _ kp ⟨dx,0,aA,hS.RP kp hx,rfl,Nat.zero_le _⟩
def z6(K:PySem.W.Frag)(c:Addr):Sp:=fun vs H Q _=>∃(r a:Addr) (ns rest:List Int),vs=[.ref r]∧gG K c H r a ns rest∧∀H',Same H H'→Q (.int rest.length) H'
theorem Fi(F:Fun K "left" "Reader.left" pC f fd)(T:Txt K mg aD aK aH au aj):bJ P w K mg base CX0 1 f fd ["self"] (z6 K au):=by
 refine F.ok Ew (fun vs H Q E h=>?_) (fun cdv A outer s H vs Q E hr h=>?_)
 ·obtain⟨x,a,ns,r,rfl,_⟩:=h
  rfl
 ·obtain⟨r,a,ns,rest,rfl,⟨dx,p,h1,h2,h3,h4⟩,k⟩:=h
  refine⟨_,(aF (aP (dF lK (bA aV (by rfl) T.cV PySem.boot_len (ak (aW (pv 0) rfl) aC)) (aW (pv 0) rfl)))),?_⟩
  refine⟨_,rfl,r,_,dx,_,_,rfl,h1,T.cM,T.iH,wX,a,_,rfl,.inl h2,_,rfl,r,_,dx,_,_,rfl,h1,T.cM,T.eU,qu,_,_,rfl,rfl,?_⟩
  have e:(((iv ns).length:Nat):Int) - (p:Int)=(rest.length:Int):=by
   rw[List.length_map,←h3,List.length_drop]
   omega
  show Q (.int ((((iv ns).length:Nat):Int) - (p:Int))) H
  rw[e]
  exact k H (Same.refl H)
def nu(K:PySem.W.Frag)(c:Addr):Sp:=fun vs H Q _=>∃(r a:Addr) (ns rest:List Int),vs=[.ref r]∧gG K c H r a ns rest∧∀H',Same H H'→Q (.bl rest.isEmpty) H'
theorem vR(F:Fun K "all_taken" "Reader.all_taken" jl f fd)(T:Txt K mg aD aK aH au aj)(cC:GM P w K mg base au "left" 1 ["self"] (z6 K au)):bJ P w K mg base CX0 2 f fd ["self"] (nu K au):=by
 refine F.ok vQ (fun vs H Q E h=>?_) (fun cdv A outer s H vs Q E hr h=>?_)
 ·obtain⟨x,a,ns,r,rfl,_⟩:=h
  rfl
 ·obtain⟨r,a,ns,rest,rfl,hR,k⟩:=h
  have hR0:=hR
  obtain⟨dx,p,h1,h2,h3,h4⟩:=hR
  refine⟨_,(aF (aP (Pu (nW nU (bf (pv 0) cC (hr.mono (by decide))) bB (bx _)) (Dj (Zj (aW (pv 0) rfl)))))),?_⟩
  refine⟨_,rfl,r,dx,_,rfl,h1,CK,r,a,ns,rest,rfl,hR0,fun H' hH=>⟨rfl,_,rfl,?_⟩⟩
  refine gA (fun c=>?_) (fun c=>?_)
  ·have c:rest.length=0:=by
    have c:V.int (rest.length:Nat)=V.int 0:=of_decide_eq_true c
    injection c with c
    omega
   refine⟨_,rfl,r,_,dx,_,_,rfl,hH _ _ h1,T.cM,T.ni,Kg,_,rfl,?_⟩
   have e:rest.isEmpty=true:=by rw[List.isEmpty_iff_length_eq_zero];exact c
   rw[e] at k
   exact k H' hH
  ·have e:rest.isEmpty=false:=by
    cases rest with
    |nil=>exact absurd (decide_eq_true rfl) c
    |cons x y=>rfl
   rw[e] at k
   exact k H' hH
def gD(K:PySem.W.Frag)(c:Addr):Sp:=fun vs H Q _=>∃(r a:Addr) (ns:List Int) (z:Int) (rest:List Int),vs=[.ref r]∧gG K c H r a ns (z::rest)∧∀H',aL [r] H H'→gG K c H' r a ns rest→Q (.int z) H'
theorem Fj(F:Fun K "take" "Reader.take" pD f fd)(T:Txt K mg aD aK aH au aj)(cC:GM P w K mg base au "left" 1 ["self"] (z6 K au)):bJ P w K mg base CX0 2 f fd ["self"] (gD K au):=by
 refine F.ok Ey (fun vs H Q E h=>?_) (fun cdv A outer s H vs Q E hr h=>?_)
 ·obtain⟨x,a,ns,z,r,rfl,_⟩:=h
  rfl
 ·obtain⟨r,a,ns,z,rest,rfl,hR,k⟩:=h
  have hR0:=hR
  obtain⟨dx,p,h1,h2,h3,h4⟩:=hR
  obtain⟨d1,d2,d3⟩:=drop_cons h3
  refine⟨_,(aB (bI (aY nU (bf (pv 0) cC (hr.mono (by decide))) bB (bx _)) (aB (dX (pv 0) jD rfl)
   (aF (aP bB))) aZ)
   (aB (HW (pv 0) bB Vo)
   (aF (aP (cJ bK (aW (pv 0) rfl) (dF lK (aW (pv 0) rfl) bB) (fun _ _=>rfl)))))),?_⟩
  refine⟨_,rfl,r,dx,_,rfl,h1,CK,r,a,ns,_,rfl,hR0,fun H' hH=>⟨rfl,_,rfl,?_⟩⟩
  refine gA (fun c=>?_) (fun c=>?_)
  ·have c:V.int (((z::rest).length:Nat):Int)=V.int 0:=of_decide_eq_true c
   injection c with c
   rw[List.length_cons] at c
   omega
  ·have h1':=hH _ _ h1
   refine⟨_,rfl,r,_,dx,_,_,rfl,h1',T.cM,T.eU,qu,_,_,rfl,rfl,dx,_,h1',(by show 3<1000;decide),?_⟩
   rw[Wv]
   have kp:aL [r] H' (upd H' r (.ins au dx (rf a ((p:Int)+1) false))):=aL.upd List.mem_cons_self
   have h2':SqL K (upd H' r (.ins au dx (rf a ((p:Int)+1) false))) a (iv ns):=(hH.seq h2).RP kp h1'
   refine⟨_,rfl,r,_,dx,_,_,rfl,aA,T.cM,T.iH,wX,_,rfl,r,_,dx,_,_,rfl,aA,T.cM,T.eU,qu,_,_,rfl,rfl,a,_,_,.int z,rfl,rfl,h2',at_of (j:=p) (by omega) (by rw[List.getElem?_map,d1];rfl),?_⟩
   exact k _ ((aL.same hH).trans kp) ⟨dx,p+1,aA,h2',d2,d3⟩
def cQ(K:PySem.W.Frag)(c:Addr):Sp:=fun vs H Q _=>∃(r a:Addr) (ns xs rest:List Int),vs=[.ref r]∧gG K c H r a ns ((xs.length:Int)::(xs++rest))∧
 ∀H' q,aL [r] H H'→gG K c H' r a ns rest→H q=none→H' q=some (.lst (iv xs))→Q (.ref q) H'
theorem Z7{ns xs rest:List Int}{p:Nat}(h:ns.drop p=xs++rest)(hp:p≤ns.length):jY (iv ns) (some (((p:Nat)+(xs.length:Nat):Int) - (xs.length:Nat))) (some ((p:Nat)+(xs.length:Nat):Int))=iv xs:=by
 have hl:ns.length=p+(xs++rest).length:=by
  have:=congrArg List.length h
  rw[List.length_drop] at this
  omega
 rw[List.length_append] at hl
 have e1:HT.sIx (iv ns).length 0 (some (((p:Nat)+(xs.length:Nat):Int) - (xs.length:Nat)))=p:=by
  unfold HT.sIx
  rw[List.length_map]
  simp only[]
  split<;>omega
 have e2:HT.sIx (iv ns).length (iv ns).length (some ((p:Nat)+(xs.length:Nat):Int))=p+xs.length:=by
  unfold HT.sIx
  rw[List.length_map]
  simp only[]
  split<;>omega
 unfold jY
 rw[e1,e2,←List.map_drop,h,List.map_append,Nat.add_sub_cancel_left,List.take_append_of_le_length (by rw[List.length_map];exact Nat.le_refl _),List.take_of_length_le (by rw[List.length_map];exact Nat.le_refl _)]
theorem vU(F:Fun K "take_list" "Reader.take_list" jm f fd)(T:Txt K mg aD aK aH au aj)(cC:GM P w K mg base au "left" 1 ["self"] (z6 K au))(aN:GM P w K mg base au "take" 2 ["self"] (gD K au)):bJ P w K mg base CX0 3 f fd ["self"] (cQ K au):=by
 refine F.ok mq (fun vs H Q E h=>?_) (fun cdv A outer s H vs Q E hr h=>?_)
 ·obtain⟨x,a,ns,z,r,rfl,_⟩:=h
  rfl
 ·obtain⟨r,a,ns,xs,rest,rfl,hR,k⟩:=h
  refine⟨_,(aB (aX (i:=1) mq.nd rfl (by first|exact Or.inl rfl|exact Or.inr rfl) (bf (pv 0) aN (hr.mono (by decide))))
   (aB (bI (xX (aY mW (pv 1) bB (bx _)) (qM (aY tY (pv 1) (bf (pv 0) cC (hr.mono (by decide))) (bx _)))).pt (aB (dX (pv 0) jD rfl)
   (aF (aP (bG aC)))) aZ)
   (aB (HW (pv 0) (pv 1) Vo)
   (aF (aP (iZ kZ (aW (pv 0) rfl) (jE (dF lK (aW (pv 0) rfl) (pv 1))) (jE (aW (pv 0) rfl)))))))),?_⟩
  have hR0:=hR
  obtain⟨_,p0,h1,_⟩:=hR0
  refine⟨_,rfl,r,_,_,rfl,h1,dN,r,a,ns,_,_,rfl,hR,fun H1 k1 hR1=>?_⟩
  have hR2:=hR1
  obtain⟨dx,p,h1,h2,h3,h4⟩:=hR2
  have hl:ns.length=p+(xs++rest).length:=by
   have:=congrArg List.length h3
   rw[List.length_drop] at this
   omega
  refine⟨_,rfl,_,_,rfl,rfl,_,rfl,gA (fun c=>?_) (fun c=>⟨_,rfl,_,rfl,r,dx,_,rfl,h1,CK,r,a,ns,_,rfl,hR1,fun H2 hH2=>⟨_,_,rfl,rfl,_,rfl,gA (fun c'=>?_) (fun c'=>?_)⟩⟩)⟩
  ·have c:(xs.length:Int)<0:=of_decide_eq_true c
   omega
  ·have c':(((xs++rest).length:Nat):Int)<(xs.length:Int):=of_decide_eq_true c'
   rw[List.length_append] at c'
   omega
  ·have h1':=hH2 _ _ h1
   refine⟨_,rfl,r,_,dx,_,_,rfl,h1',T.cM,T.eU,qu,_,rfl,_,_,rfl,rfl,dx,_,h1',(by show 3<1000;decide),?_⟩
   rw[Wv]
   have kp:aL [r] H2 (upd H2 r (.ins au dx (rf a ((p:Int)+(xs.length:Nat)) false))):=aL.upd List.mem_cons_self
   have h2':SqL K (upd H2 r (.ins au dx (rf a ((p:Int)+(xs.length:Nat)) false))) a (iv ns):=(hH2.seq h2).RP kp h1'
   refine⟨_,rfl,r,_,dx,_,_,rfl,aA,T.cM,T.iH,wX,_,rfl,r,_,dx,_,_,rfl,aA,T.cM,T.eU,qu,_,rfl,_,_,rfl,rfl,_,rfl,_,rfl,r,_,dx,_,_,rfl,aA,T.cM,T.eU,qu,_,rfl,a,_,rfl,h2',fun q hq=>?_⟩
   rw[List.length_append] at hl
   have nq:q≠r:=fun e=>by rw[e,aA] at hq;cases hq
   have hq0:H2 q=none:=by rw[aJ nq] at hq;exact hq
   have kp2:aL [r] H2 (upd (upd H2 r (.ins au dx (rf a ((p:Int)+(xs.length:Nat)) false))) q (.lst (iv xs))):=kp.trans (aL.same (Same.new hq))
   have e:=Z7 h3 h4
   show Q (.ref q) (upd (upd H2 r (.ins au dx (rf a ((p:Int)+(xs.length:Nat)) false))) q (.lst (jY (iv ns) (some (((p:Nat)+(xs.length:Nat):Int) - (xs.length:Nat))) (some ((p:Nat)+(xs.length:Nat):Int)))))
   rw[e]
   have kall:aL [r] H (upd (upd H2 r (.ins au dx (rf a ((p:Int)+(xs.length:Nat)) false))) q (.lst (iv xs))):=(k1.trans (aL.same hH2)).trans kp2
   refine k _ q kall ⟨dx,p+xs.length,?_,(Same.new hq).seq h2',?_,by omega⟩ ?_ aA
   ·rw[aJ (Ne.symm nq),aA]
    rfl
   ·rw[←List.drop_drop,h3]
    exact List.drop_left
   ·cases e:H q with
    |none=>rfl
    |some o=>rw[hH2 _ _ (k1 q o e (by simpa using nq))] at hq0;cases hq0
def bD(H:Hp)(as:List Addr)(xss:List (List Int)):Prop:=as.length=xss.length∧∀(j:Nat) a xs,as[j]?=some a→xss[j]?=some xs→H a=some (.lst (iv xs))
theorem bD.nil{H:Hp}:bD H [] []:=⟨rfl,fun j a xs h=>by simp at h⟩
theorem bD.mono{H H':Hp}{as:List Addr}{xss:List (List Int)}(h:bD H as xss)(k: ∀a∈as,∀o,H a=some o→H' a=some o):bD H' as xss:=
 ⟨h.1,fun j a xs ha hx=>k a (List.mem_of_getElem? ha) _ (h.2 j a xs ha hx)⟩
theorem bD.snoc{H:Hp}{as:List Addr}{xss:List (List Int)}{a:Addr}{xs:List Int}(h:bD H as xss)(ha:H a=some (.lst (iv xs))):bD H (as++[a]) (xss++[xs]):=by
 refine⟨by rw[List.length_append,List.length_append,h.1];rfl,fun j b ys hb hy=>?_⟩
 by_cases q:j<as.length
 ·rw[List.getElem?_append_left q] at hb
  rw[List.getElem?_append_left (by rw[←h.1];exact q)] at hy
  exact h.2 j b ys hb hy
 ·rw[List.getElem?_append_right (by omega)] at hb
  rw[List.getElem?_append_right (by rw[←h.1];omega),←h.1] at hy
  have e:j - as.length=0:=by
   have:=(List.getElem?_eq_some_iff.mp hb).1
   simp at this
   omega
  rw[e] at hb hy
  cases hb
  cases hy
  exact ha
def enc(xss:List (List Int)):List Int:=xss.flatMap fun xs=>(xs.length:Int)::xs
theorem NP{xss:List (List Int)}{i:Nat}{xs:List Int}(h:xss[i]?=some xs):enc (xss.drop i)=(xs.length:Int)::(xs++enc (xss.drop (i+1))):=by
 have hi:i<xss.length:=(List.getElem?_eq_some_iff.mp h).1
 have e:xss[i]=xs:=(List.getElem?_eq_some_iff.mp h).2
 rw[List.drop_eq_getElem_cons hi,e]
 rfl
def lH(K:PySem.W.Frag)(c:Addr):Sp:=fun vs H Q _=>∃(r a:Addr) (ns:List Int) (xss:List (List Int)) (rest:List Int),vs=[.ref r]∧xss.length≤1000∧gG K c H r a ns ((xss.length:Int)::(enc xss++rest))∧
 ∀H' q as,aL [r] H H'→gG K c H' r a ns rest→H q=none→H' q=some (.lst (as.map V.ref))→(∀a∈as,H a=none∧a≠q)→bD H' as xss→Q (.ref q) H'
theorem uY(F:Fun K "take_lists" "Reader.take_lists" iT f fd)(T:Txt K mg aD aK aH au aj)(aN:GM P w K mg base au "take" 2 ["self"] (gD K au))(aM:GM P w K mg base au "take_list" 3 ["self"] (cQ K au)):bJ P w K mg base CX0 4 f fd ["self"] (lH K au):=by
 refine F.ok fH (fun vs H Q E h=>?_) (fun cdv A outer s H vs Q E hr h=>?_)
 ·obtain⟨x,a,ns,z,r,rfl,_⟩:=h
  rfl
 ·obtain⟨r,a,ns,xss,rest,rfl,hn,hR,k⟩:=h
  refine⟨_,(aB (aX (i:=1) fH.nd rfl (by first|exact Or.inl rfl|exact Or.inr rfl) (bf (pv 0) aN (hr.mono (by decide))))
   (aF (aP (Bu (own:=[("k",2)]) rfl fH.nd (gH (by rfl) T.iI (ak (pv 1) aC)) (fU (by rfl)) (fun _ _ _ _ _=>(bF (i:=2) fH.nd rfl (by first|exact Or.inl rfl|exact Or.inr rfl))) (fun _ _ _ _ _=>jG) (fun _ _ _ _ _=>(bf (pv 0) aM (hr.mono (by decide)))))))),?_⟩
  have hR0:=hR
  obtain⟨dx0,p0,h1,_⟩:=hR0
  refine⟨_,rfl,r,_,_,rfl,h1,dN,r,a,ns,_,_,rfl,hR,fun H1 k1 hR1=>?_⟩
  refine⟨_,rfl,(xss.length:Int),rfl,by omega,by omega,fun D hD=>?_⟩
  have hDr:D≠r:=by
   obtain⟨_,_,q⟩:=hR1.ins
   exact Ne.symm (aG q hD)
  have free: ∀{a:Addr},H1 a=none→a≠r→H a=none:=fun{a} h nr=>by
   cases e:H a with
   |none=>rfl
   |some o=>rw[k1 a o e (by simpa using nr)] at h;cases h
  refine p8 (lo:=0) (n:=(xss.length:Int).toNat) (fun i H'=>∃as,as.length=i∧H' D=some (.lst (as.map V.ref))∧aL [r] H1 H'∧gG K au H' r a ns (enc (xss.drop i)++rest)∧(∀a∈as,H1 a=none∧a≠D)∧bD H' as (xss.take i)) ?_ ?_ ?_
  ·exact⟨[],rfl,aA,aL.same (Same.new hD),hR1.same (Same.new hD),fun a h=>(by cases h),bD.nil⟩
  ·rintro i H' hi ⟨as,hl,hD',kp,hR',hf,hA⟩
   have hi:i<xss.length:=by omega
   have hx:xss[i]?=some xss[i]:=List.getElem?_eq_getElem hi
   rw[NP hx] at hR'
   have hR'':=hR'
   obtain⟨dx1,p1,h1',_⟩:=hR''
   refine⟨rfl,?_⟩
   refine jH ?_
   refine⟨_,rfl,r,_,_,rfl,h1',cG,r,a,ns,xss[i],enc (xss.drop (i+1))++rest,rfl,(by rw[List.cons_append,List.append_assoc] at hR';exact hR'),fun H2 q k2 hR2 hq0 hq=>?_⟩
   have hqD:q≠D:=Ne.symm (aG hD' hq0)
   have hqr:q≠r:=by
    obtain⟨_,_,z⟩:=hR'.ins
    exact Ne.symm (aG z hq0)
   have hD2:H2 D=some (.lst (as.map V.ref)):=k2 D _ hD' (by simpa using hDr)
   refine⟨as.map V.ref,hD2,by rw[List.length_map,hl];exact Nat.lt_of_lt_of_le (Nat.lt_of_lt_of_le hi hn) (by decide),as++[q],by rw[List.length_append,hl];rfl,?_,?_,?_,?_,?_⟩
   ·rw[aA,List.map_append];rfl
   ·exact fun b o e nb=>by
     rw[aJ (aG e hD)]
     exact k2 b o (kp b o e nb) nb
   ·obtain⟨dx,p,g1,g2,g3,g4⟩:=hR2
    obtain⟨_,_,m1,m2,_⟩:=hR1
    exact⟨dx,p,by rw[aJ (Ne.symm hDr)];exact g1,m2.later (fun b o e nb=>k2 b o (kp b o e nb) nb) m1 hD,g3,g4⟩
   ·intro a ha
    rcases List.mem_append.mp ha with ha|ha
    ·exact hf a ha
    ·have e:a=q:=List.mem_singleton.mp ha
     subst e
     refine⟨?_,hqD⟩
     cases e:H1 a with
     |none=>rfl
     |some o=>rw[kp a o e (by simpa using hqr)] at hq0;cases hq0
   ·rw[cI hx]
    refine bD.snoc (hA.mono fun a ha o e=>?_) (by rw[aJ hqD];exact hq)
    have nr:a≠r:=by
     intro e'
     obtain⟨_,_,z⟩:=hR1.ins
     rw[e'] at ha
     rw[(hf r ha).1] at z
     cases z
    rw[aJ (hf a ha).2]
    exact k2 a o e (by simpa using nr)
  ·rintro H' ⟨as,hl,hD',kp,hR',hf,hA⟩
   have e:(xss.length:Int).toNat=xss.length:=by omega
   rw[e] at hl hR' hA
   rw[List.take_length] at hA
   rw[List.drop_length] at hR'
   refine k H' D as (fun b o e nb=>kp b o (k1 b o e nb) nb) hR' (free hD hDr) hD' (fun a ha=>⟨free (hf a ha).1 fun e'=>?_,(hf a ha).2⟩) hA
   obtain⟨_,_,z⟩:=hR1.ins
   rw[e'] at ha
   rw[(hf r ha).1] at z
   cases z
end
def fO:Option Nat→Int
 |none=> -1
 |some p=>(p:Int)
def dJ(l:Sx03.Cond):List Int:=l.map fO
def bh(b:List Nat):List Int:=b.map Int.ofNat
def cT:Sx03.Op→Int
 | .behind _=>0
 | .ahead _=>1
 | .instead _ _=>2
 | .change _ _=>3
 | .twice _=>4
 | .stem _=>5
 | .refer _=>6
 | .gap=>7
def yK:Sx03.Op→Int
 | .instead k _=>(k:Int)
 | .twice k=>(k:Int)
 | .stem j=>(j:Int)
 |_=>0
def bL:Sx03.Op→List (List Int)
 | .behind b=>[bh b]
 | .ahead b=>[bh b]
 | .instead _ b=>[bh b]
 | .change a b=>[bh a,bh b]
 | .refer l=>[dJ l]
 |_=>[]
def lf(z p r w:Addr):List (Str×V):=[("sizes",.ref z),("parents",.ref p),("rules",.ref r),("words",.ref w)]
def uf(g b:Int)(c:Addr)(d n:Int)(l ce so:Addr):List (Str×V):=[("group",.int g),("block",.int b),("condition",.ref c),("doing",.int d),("number",.int n),("lists",.ref l),("cells",.ref ce),("sources",.ref so)]
def wf(g:Int)(s o:Addr):List (Str×V):=[("group",.int g),("stems",.ref s),("odd_forms",.ref o)]
section
variable{z p r w c l s o ce so:Addr}{g b d n:Int}
theorem iu:(lf z p r w).lookup ("sizes":Str)=some (.ref z):=by rfl
theorem nA:(lf z p r w).lookup ("parents":Str)=some (.ref p):=by rfl
theorem lJ:(lf z p r w).lookup ("rules":Str)=some (.ref r):=by rfl
theorem jU:(lf z p r w).lookup ("words":Str)=some (.ref w):=by rfl
theorem Ww:(lf z p r w).lookup ("begin":Str)=none:=by rfl
theorem Ca:(lf z p r w).lookup ("has_features":Str)=none:=by rfl
theorem rR:(lf z p r w).lookup ("has_group":Str)=none:=by rfl
theorem NQ:(lf z p r w).lookup ("has_rule":Str)=none:=by rfl
theorem uZ:(lf z p r w).lookup ("has_word":Str)=none:=by rfl
theorem Yi:(lf z p r w).lookup ("line":Str)=none:=by rfl
theorem nF:(lf z p r w).lookup ("count_all_cells":Str)=none:=by rfl
theorem NT:(uf g b c d n l ce so).lookup ("group":Str)=some (.int g):=by rfl
theorem Fl:(uf g b c d n l ce so).lookup ("block":Str)=some (.int b):=by rfl
theorem rT:(uf g b c d n l ce so).lookup ("condition":Str)=some (.ref c):=by rfl
theorem nG:(uf g b c d n l ce so).lookup ("doing":Str)=some (.int d):=by rfl
theorem kE:(uf g b c d n l ce so).lookup ("number":Str)=some (.int n):=by rfl
theorem jV:(uf g b c d n l ce so).lookup ("lists":Str)=some (.ref l):=by rfl
theorem NZ:(uf g b c d n l ce so).lookup ("cells":Str)=some (.ref ce):=by rfl
theorem Fo:(uf g b c d n l ce so).lookup ("sources":Str)=some (.ref so):=by rfl
theorem Z8{m:Int}:iY "number" (.int m) (uf g b c d n l ce so)=uf g b c d m l ce so:=by rfl
theorem yL:(wf g s o).lookup ("group":Str)=some (.int g):=by rfl
theorem Wx:(wf g s o).lookup ("stems":Str)=some (.ref s):=by rfl
theorem jW:(wf g s o).lookup ("odd_forms":Str)=some (.ref o):=by rfl
end
structure iQ(cR:Addr)(F:Hp)(a:Addr)(k b:Int)(l:List Int)(op:Sx03.Op)(ce so:Addr):Prop where
 ex: ∃dx ca la as,F a=some (.ins cR dx (uf k b ca (cT op) (yK op) la ce so))∧F ca=some (.lst (iv l))∧F la=some (.lst (as.map V.ref))∧bD F as (bL op)∧ca≠ce∧la≠ce∧∀b∈as,b≠ce
theorem iQ.mono{cR:Addr}{F F':Hp}{a:Addr}{k b:Int}{l:List Int}{op:Sx03.Op}{ce so:Addr}(h:iQ cR F a k b l op ce so)(s:Same F F'):iQ cR F' a k b l op ce so:=by
 obtain⟨dx,ca,la,as,h1,h2,h3,h4,h5⟩:=h.ex
 exact⟨dx,ca,la,as,s _ _ h1,s _ _ h2,s _ _ h3,h4.mono fun a _ o e=>s a o e,h5⟩
def Y0(ds:List Nat)(r:Sx03.Rule)(kvs:List (Key×V)):Prop:=∀l,r.op= .refer l→∀c,Sx03.isCell ds c=true→Sx03.meets r.cond c=true→jC kvs (Sum.inl ((Fs.num ds c:Nat):Int))=some (.int (Fs.num ds (Sx03.moved l c):Nat))
structure Fp(cR:Addr)(F:Hp)(ds:List Nat)(a:Addr)(r:Sx03.Rule):Prop where
 ex: ∃ce so kvs,iQ cR F a (r.cls:Nat) (r.block:Nat) (dJ r.cond) r.op ce so∧F ce=some (.lst (nv (Fs.wA ds r.cond)))∧F so=some (.dK kvs)∧Y0 ds r kvs
theorem Fp.mono{cR:Addr}{F F':Hp}{ds:List Nat}{a:Addr}{r:Sx03.Rule}(h:Fp cR F ds a r)(s:Same F F'):Fp cR F' ds a r:=by
 obtain⟨ce,so,kvs,h1,h2,h3,h4⟩:=h.ex
 exact⟨ce,so,kvs,h1.mono s,s _ _ h2,s _ _ h3,h4⟩
def Km(F:Hp):Option V→Option (Sx03.Cell×Option Sx03.Bytes)→Prop
 |none,none=>True
 |some v,some (_,none)=>v= .non
 |some v,some (_,some b)=>∃a,v= .ref a∧F a=some (.lst (nv b))
 |_,_=>False
theorem Km.mono{F F':Hp}(s:Same F F'): ∀{v:Option V} {o:Option (Sx03.Cell×Option Sx03.Bytes)},Km F v o→Km F' v o
 |none,none,h=>h
 |some v,some (_,none),h=>h
 |some v,some (_,some b),⟨a,h1,h2⟩=>⟨a,h1,s _ _ h2⟩
 |none,some _,h=>h.elim
 |some _,none,h=>h.elim
def Wy(F:Hp)(ds:List Nat)(kvs:List (Key×V))(odd:List (Sx03.Cell×Option Sx03.Bytes)):Prop:=
 ∀c,Sx03.isCell ds c=true→Km F (jC kvs (Sum.inl ((Fs.num ds c:Nat):Int))) (odd.find? fun x=>x.1==c)
structure Qz(cW:Addr)(F H:Hp)(ds:List Nat)(a d:Addr)(w:Sx03.Word)(t:Nat):Prop where
 ex: ∃dx sa as kvs,F a=some (.ins cW dx (wf (w.cls:Nat) sa d))∧F sa=some (.lst (as.map V.ref))∧bD F as (w.stems.map bh)∧H d=some (.dK kvs)∧Wy F ds kvs w.odd∧kvs.length≤t
structure Sh where
 dx:Addr
 za:Addr
 pa:Addr
 ra:Addr
 wa:Addr
 ras:List Addr
 was:List Addr
 das:List Addr
 F:Hp
def Sh.own(S:Sh)(l:Addr):List Addr:=l::S.pa::S.ra::S.wa::S.das
structure LAt(cL cR cW:Addr)(H:Hp)(l:Addr)(s:Sx03.St)(t:Nat)(S:Sh):Prop where
 lang:H l=some (.ins cL S.dx (lf S.za S.pa S.ra S.wa))
 sub:Same S.F H
 sizes:S.F S.za=some (.lst (nv s.dims))
 par:H S.pa=some (.lst (iv (s.classes.map fO)))
 rules:H S.ra=some (.lst (S.ras.map V.ref))
 rlen:S.ras.length=s.rules.length
 rat: ∀(j:Nat) a r,S.ras[j]?=some a→s.rules[j]?=some r→Fp cR S.F s.dims a r
 words:H S.wa=some (.lst (S.was.map V.ref))
 tG:S.was.length=s.words.length
 wY:S.das.length=s.words.length
 wat: ∀(j:Nat) a d w,S.was[j]?=some a→S.das[j]?=some d→s.words[j]?=some w→Qz cW S.F H s.dims a d w t
 nd:(S.own l).Nodup
 nf: ∀b∈S.own l,S.F b=none
def Out(S:Sh)(l b:Addr):Prop:=b∉S.own l∧S.F b=none
theorem LAt.out{cL cR cW:Addr}{H:Hp}{l:Addr}{s:Sx03.St}{t:Nat}{S:Sh}(L:LAt cL cR cW H l s t S){b:Addr}(h:H b=none):Out S l b:=by
 refine⟨fun m=>?_,?_⟩
 ·have m:b=l∨b=S.pa∨b=S.ra∨b=S.wa∨b∈S.das:=by simpa [Sh.own] using m
  rcases m with rfl|rfl|rfl|rfl|m
  ·rw[L.lang] at h;cases h
  ·rw[L.par] at h;cases h
  ·rw[L.rules] at h;cases h
  ·rw[L.words] at h;cases h
  ·obtain⟨j,hj⟩:=List.mem_iff_getElem?.mp m
   have hl:=(List.getElem?_eq_some_iff.mp hj).1
   have h1:S.was[j]?=some (S.was[j]'(by rw[L.tG,←L.wY];exact hl)):=List.getElem?_eq_getElem _
   have h2:s.words[j]?=some (s.words[j]'(by rw[←L.wY];exact hl)):=List.getElem?_eq_getElem _
   obtain⟨_,_,_,_,_,_,_,q,_⟩:=(L.wat j _ b _ h1 hj h2).ex
   rw[q] at h;cases h
 ·cases e:S.F b with
  |none=>rfl
  |some o=>rw[L.sub b o e] at h;cases h
theorem LAt.keep{cL cR cW:Addr}{H H':Hp}{l:Addr}{s:Sx03.St}{t:Nat}{S:Sh}(L:LAt cL cR cW H l s t S){bs:List Addr}(k:aL bs H H')(hb: ∀b∈bs,Out S l b):LAt cL cR cW H' l s t S:=by
 have own: ∀{b:Addr} {o:HO},b∈S.own l→H b=some o→H' b=some o:=fun{b o} m e=>k b o e fun q=>(hb b q).1 m
 refine⟨own (by simp[Sh.own]) L.lang,fun b o e=>k b o (L.sub b o e) fun q=>(by rw[(hb b q).2] at e;cases e),L.sizes,own (by simp[Sh.own]) L.par,own (by simp[Sh.own]) L.rules,L.rlen,L.rat,own (by simp[Sh.own]) L.words,L.tG,L.wY,fun j a d w h1 h2 h3=>?_,L.nd,L.nf⟩
 obtain⟨dx,sa,as,kvs,q1,q2,q3,q4,q5,q6⟩:=(L.wat j a d w h1 h2 h3).ex
 exact⟨dx,sa,as,kvs,q1,q2,q3,own (by simp[Sh.own,List.mem_of_getElem? h2]) q4,q5,q6⟩
theorem LAt.same{cL cR cW:Addr}{H H':Hp}{l:Addr}{s:Sx03.St}{t:Nat}{S:Sh}(L:LAt cL cR cW H l s t S)(k:Same H H'):LAt cL cR cW H' l s t S:=L.keep (bs:=[]) (aL.same k) fun b h=>(nomatch h)
theorem LAt.later{cL cR cW:Addr}{H:Hp}{l:Addr}{s:Sx03.St}{t u:Nat}{S:Sh}(L:LAt cL cR cW H l s t S)(h:t≤u):LAt cL cR cW H l s u S:=by
 refine⟨L.lang,L.sub,L.sizes,L.par,L.rules,L.rlen,L.rat,L.words,L.tG,L.wY,fun j a d w h1 h2 h3=>?_,L.nd,L.nf⟩
 obtain⟨dx,sa,as,kvs,q1,q2,q3,q4,q5,q6⟩:=(L.wat j a d w h1 h2 h3).ex
 exact⟨dx,sa,as,kvs,q1,q2,q3,q4,q5,by omega⟩
section
variable{P:Program}{w:World}{K:PySem.W.Frag}{mg:Str→Option Value}{base:Heap}{au aD aj aH aK:Addr}{f:Addr}{fd:FuncData}
def wZ(cL cR cW:Addr):Sp:=fun vs H Q _=>∃l s t S,vs=[.ref l]∧LAt cL cR cW H l s t S∧∀H',Same H H'→Q (.bl (decide (s.dims≠[]))) H'
theorem pL(F:Fun K "has_features" "Language.has_features" fY f fd)(T:Txt K mg aD aK aH au aj):bJ P w K mg base CX0 1 f fd ["self"] (wZ aj aD aH):=by
 refine F.ok pF (fun vs H Q E h=>?_) (fun cdv A outer s H vs Q E hr h=>?_)
 ·obtain⟨l,s,t,S,rfl,_⟩:=h
  rfl
 ·obtain⟨l,s,t,S,rfl,L,k⟩:=h
  refine⟨_,(aF (aP (nW tY (bA aV (by rfl) T.cV PySem.boot_len (ak (aW (pv 0) rfl) aC)) bB (bx _)))),?_⟩
  refine⟨_,rfl,l,_,_,_,_,rfl,L.lang,T.aR,T.bM,iu,_,_,rfl,.inl (SqL.of (L.sub _ _ L.sizes)),_,_,rfl,rfl,?_⟩
  have e:decide ((0:Int)<((nv s.dims).length:Nat))=decide (s.dims≠[]):=by
   refine decide_eq_decide.mpr ?_
   rw[List.length_map,List.length_map]
   cases s.dims with
   |nil=>simp
   |cons a r=>simp
  show Q (.bl (decide ((0:Int)<((nv s.dims).length:Nat)))) H
  rw[e]
  exact k H (Same.refl H)
def nH(cL cR cW:Addr):Sp:=fun vs H Q _=>∃l s t S z,vs=[.ref l,.int z]∧LAt cL cR cW H l s t S∧∀H',Same H H'→Q (.bl (decide (0≤z∧z<s.classes.length))) H'
theorem tH(F:Fun K "has_group" "Language.has_group" ig f fd)(T:Txt K mg aD aK aH au aj):bJ P w K mg base CX0 1 f fd ["self","group"] (nH aj aD aH):=by
 refine F.ok tE (fun vs H Q E h=>?_) (fun cdv A outer s H vs Q E hr h=>?_)
 ·obtain⟨l,s,t,S,z,rfl,_⟩:=h
  rfl
 ·obtain⟨l,s,t,S,z,rfl,L,k⟩:=h
  refine⟨_,(aF (aP (xZ Dr mW bB (pv 1) (bA aV (by rfl) T.cV PySem.boot_len (ak (aW (pv 0) rfl) aC))))),?_⟩
  refine⟨_,rfl,_,_,rfl,rfl,_,rfl,gA (fun c=>?_) (fun c=>?_)⟩
  ·have c:0≤z:=of_decide_eq_true c
   refine⟨_,rfl,l,_,_,_,_,rfl,L.lang,T.aR,T.dD,nA,_,_,rfl,.inl (SqL.of L.par),_,_,rfl,rfl,?_⟩
   have e:decide (z<(((iv (s.classes.map fO)).length:Nat):Int))=decide (0≤z∧z<s.classes.length):=decide_eq_decide.mpr (by rw[List.length_map,List.length_map];omega)
   show Q (.bl (decide (z<(((iv (s.classes.map fO)).length:Nat):Int)))) H
   rw[e]
   exact k H (Same.refl H)
  ·have c: ¬0≤z:=fun q=>c (decide_eq_true q)
   have e:decide (0≤z∧z<(s.classes.length:Int))=false:=decide_eq_false (by omega)
   rw[e] at k
   exact k H (Same.refl H)
def z7(cL cR cW:Addr):Sp:=fun vs H Q _=>∃l s t S z,vs=[.ref l,.int z]∧LAt cL cR cW H l s t S∧∀H',Same H H'→Q (.bl (decide (0≤z∧z<s.rules.length))) H'
theorem u0(F:Fun K "has_rule" "Language.has_rule" iU f fd)(T:Txt K mg aD aK aH au aj):bJ P w K mg base CX0 1 f fd ["self","rule"] (z7 aj aD aH):=by
 refine F.ok uQ (fun vs H Q E h=>?_) (fun cdv A outer s H vs Q E hr h=>?_)
 ·obtain⟨l,s,t,S,z,rfl,_⟩:=h
  rfl
 ·obtain⟨l,s,t,S,z,rfl,L,k⟩:=h
  refine⟨_,(aF (aP (xZ Dr mW bB (pv 1) (bA aV (by rfl) T.cV PySem.boot_len (ak (aW (pv 0) rfl) aC))))),?_⟩
  refine⟨_,rfl,_,_,rfl,rfl,_,rfl,gA (fun c=>?_) (fun c=>?_)⟩
  ·have c:0≤z:=of_decide_eq_true c
   refine⟨_,rfl,l,_,_,_,_,rfl,L.lang,T.aR,T.cF,lJ,_,_,rfl,.inl (SqL.of L.rules),_,_,rfl,rfl,?_⟩
   have e:decide (z<(((S.ras.map V.ref).length:Nat):Int))=decide (0≤z∧z<s.rules.length):=decide_eq_decide.mpr (by rw[List.length_map,L.rlen];omega)
   show Q (.bl (decide (z<(((S.ras.map V.ref).length:Nat):Int)))) H
   rw[e]
   exact k H (Same.refl H)
  ·have c: ¬0≤z:=fun q=>c (decide_eq_true q)
   have e:decide (0≤z∧z<(s.rules.length:Int))=false:=decide_eq_false (by omega)
   rw[e] at k
   exact k H (Same.refl H)
def qw(cL cR cW:Addr):Sp:=fun vs H Q _=>∃l s t S z,vs=[.ref l,.int z]∧LAt cL cR cW H l s t S∧∀H',Same H H'→Q (.bl (decide (0≤z∧z<s.words.length))) H'
theorem u5(F:Fun K "has_word" "Language.has_word" iV f fd)(T:Txt K mg aD aK aH au aj):bJ P w K mg base CX0 1 f fd ["self","word"] (qw aj aD aH):=by
 refine F.ok uR (fun vs H Q E h=>?_) (fun cdv A outer s H vs Q E hr h=>?_)
 ·obtain⟨l,s,t,S,z,rfl,_⟩:=h
  rfl
 ·obtain⟨l,s,t,S,z,rfl,L,k⟩:=h
  refine⟨_,(aF (aP (xZ Dr mW bB (pv 1) (bA aV (by rfl) T.cV PySem.boot_len (ak (aW (pv 0) rfl) aC))))),?_⟩
  refine⟨_,rfl,_,_,rfl,rfl,_,rfl,gA (fun c=>?_) (fun c=>?_)⟩
  ·have c:0≤z:=of_decide_eq_true c
   refine⟨_,rfl,l,_,_,_,_,rfl,L.lang,T.aR,T.cu,jU,_,_,rfl,.inl (SqL.of L.words),_,_,rfl,rfl,?_⟩
   have e:decide (z<(((S.was.map V.ref).length:Nat):Int))=decide (0≤z∧z<s.words.length):=decide_eq_decide.mpr (by rw[List.length_map,L.tG];omega)
   show Q (.bl (decide (z<(((S.was.map V.ref).length:Nat):Int)))) H
   rw[e]
   exact k H (Same.refl H)
  ·have c: ¬0≤z:=fun q=>c (decide_eq_true q)
   have e:decide (0≤z∧z<(s.words.length:Int))=false:=decide_eq_false (by omega)
   rw[e] at k
   exact k H (Same.refl H)
end
theorem bw{H:Hp}{a b:Addr}{o:HO}(h:upd H a o b=none):b≠a∧H b=none:=by
 have n:b≠a:=fun e=>by rw[e,aA] at h;cases h
 rw[aJ n] at h
 exact⟨n,h⟩
section
variable{P:Program}{w:World}{K:PySem.W.Frag}{mg:Str→Option Value}{base:Heap}{au aD aj aH aK:Addr}{f:Addr}{fd:FuncData}
def CN(cL:Addr):Sp:=fun vs H Q _=>∃(l dx za:Addr) (fs:List (Str×V)),vs=[.ref l,.ref za]∧H l=some (.ins cL dx fs)∧(fs=[]∨∃z p r w,fs=lf z p r w)∧
 ∀H' pa ra wa,H' l=some (.ins cL dx (lf za pa ra wa))→H' pa=some (.lst [])→H' ra=some (.lst [])→H' wa=some (.lst [])→H pa=none→H ra=none→H wa=none→pa≠ra→pa≠wa→ra≠wa→aL [l] H H'→Q .non H'
theorem yM(F:Fun K "begin" "Language.begin" j9 f fd)(T:Txt K mg aD aK aH au aj):bJ P w K mg base CX0 1 f fd ["self","sizes"] (CN aj):=by
 refine F.ok yF (fun vs H Q E h=>?_) (fun cdv A outer s H vs Q E hr h=>?_)
 ·obtain⟨l,dx,za,fs,rfl,_⟩:=h
  rfl
 ·obtain⟨l,dx,za,fs,rfl,hl,hfs,k⟩:=h
  have hput: ∀z p r w:Addr,iY "words" (.ref w) (iY "rules" (.ref r) (iY "parents" (.ref p) (iY "sizes" (.ref z) fs)))=lf z p r w:=by
   rcases hfs with rfl|⟨z,p,r,w,rfl⟩<;>exact fun _ _ _ _=>rfl
  have h0:fs.length≤4:=by
   rcases hfs with rfl|⟨z,p,r,w,rfl⟩
   ·exact Nat.zero_le _
   ·exact Nat.le_refl _
  have h1:=lB "sizes" (.ref za) fs
  refine⟨_,(aB (dX (pv 0) (pv 1) rfl)
   (aB (dX (pv 0) (bG aC) rfl)
   (aB (dX (pv 0) (bG aC) rfl)
   (aF (dX (pv 0) (bG aC) rfl))))),?_⟩
  refine⟨_,rfl,_,rfl,l,_,dx,_,rfl,hl,T.aR,T.bM,by omega,?_⟩
  refine⟨Nat.zero_le _,fun pa hpa=>?_⟩
  obtain⟨npa,hpa0⟩:=bw hpa
  have h2:=lB "parents" (.ref pa) (iY "sizes" (.ref za) fs)
  refine⟨_,rfl,l,_,dx,_,rfl,(by rw[aJ (Ne.symm npa),aA]),T.aR,T.dD,by omega,?_⟩
  refine⟨Nat.zero_le _,fun ra hra=>?_⟩
  obtain⟨nra,N5⟩:=bw hra
  obtain⟨nra1,N5⟩:=bw N5
  obtain⟨_,N5⟩:=bw N5
  have h3:=lB "rules" (.ref ra) (iY "parents" (.ref pa) (iY "sizes" (.ref za) fs))
  refine⟨_,rfl,l,_,dx,_,rfl,(by rw[aJ (Ne.symm nra),aA]),T.aR,T.cF,by omega,?_⟩
  refine⟨Nat.zero_le _,fun wa hwa=>?_⟩
  obtain⟨nwa,Hg⟩:=bw hwa
  obtain⟨nwa1,Hg⟩:=bw Hg
  obtain⟨_,Hg⟩:=bw Hg
  obtain⟨nwa2,Hg⟩:=bw Hg
  obtain⟨_,Hg⟩:=bw Hg
  refine⟨_,rfl,l,_,dx,_,rfl,(by rw[aJ (Ne.symm nwa),aA]),T.aR,T.cu,by omega,?_⟩
  rw[hput]
  refine k _ pa ra wa aA ?_ ?_ ?_ hpa0 N5 Hg (Ne.symm nra1) (Ne.symm nwa2) (Ne.symm nwa1) ?_
  ·rw[aJ npa,aJ (Ne.symm nwa2),aJ npa,aJ (Ne.symm nra1),aJ npa,aA]
  ·rw[aJ nra,aJ (Ne.symm nwa1),aJ nra,aA]
  ·rw[aJ nwa,aA]
  ·intro b o e nb
   have nb:b≠l:=by simpa using nb
   rw[aJ nb,aJ (aG e Hg),aJ nb,aJ (aG e N5),aJ nb,aJ (aG e hpa0),aJ nb]
   exact e
def Yj(H:Hp)(S:Sh):Prop:=H S.za=none∧H S.pa=none∧H S.ra=none∧H S.wa=none∧(∀b∈S.das,H b=none)∧∀b o,S.F b=some o→H b=none
def Ko(cL cR cW:Addr):Sp:=fun vs H Q _=>∃(l dx:Addr),vs=[.ref l]∧H l=some (.ins cL dx [])∧
 ∀H' S,LAt cL cR cW H' l Sx03.none_ 0 S→Yj H S→aL [l] H H'→Q .non H'
theorem R0{cL cR cW:Addr}{H:Hp}{l dx za pa ra wa:Addr}{ds:List Nat}{t:Nat}(h1:H l=some (.ins cL dx (lf za pa ra wa)))(hz:H za=some (.lst (nv ds)))(hp:H pa=some (.lst []))(hr:H ra=some (.lst []))(hw:H wa=some (.lst []))
  (n1:pa≠ra) (n2:pa≠wa) (n3:ra≠wa) (z1:za≠pa) (z2:za≠ra) (z3:za≠wa):LAt cL cR cW H l ⟨ds,[],[],[]⟩ t ⟨dx,za,pa,ra,wa,[],[],[],upd (fun _=>none) za (.lst (nv ds))⟩:=by
 have e1:l≠pa:=d8 h1 hp (fun q=>nomatch q)
 have e2:l≠ra:=d8 h1 hr (fun q=>nomatch q)
 have e3:l≠wa:=d8 h1 hw (fun q=>nomatch q)
 have e4:l≠za:=d8 h1 hz (fun q=>nomatch q)
 refine⟨h1,fun b o e=>?_,(show upd (fun _=>none) za (.lst (nv ds)) za=_ from aA),hp,hr,rfl,fun j a r h=>by simp at h,hw,rfl,rfl,fun j a d w h=>by simp at h,?_,fun b hb=>?_⟩
 ·have e:upd (fun _=>none) za (.lst (nv ds)) b=some o:=e
  by_cases q:b=za
  ·subst q
   rw[aA] at e
   rw[←e]
   exact hz
  ·rw[aJ q] at e
   cases e
 ·show[l,pa,ra,wa].Nodup
  simp[e1,e2,e3,n1,n2,n3]
 ·have hb:b=l∨b=pa∨b=ra∨b=wa:=by simpa [Sh.own] using hb
  suffices q:b≠za from(aJ q:upd (fun _=>none) za (.lst (nv ds)) b=_)
  rcases hb with rfl|rfl|rfl|rfl
  ·exact e4
  ·exact Ne.symm z1
  ·exact Ne.symm z2
  ·exact Ne.symm z3
theorem z8(F:Fun K "__init__" "Language.__init__" lU f fd)(T:Txt K mg aD aK aH au aj)(eN:GM P w K mg base aj "begin" 1 ["self","sizes"] (CN aj)):bJ P w K mg base CX0 2 f fd ["self"] (Ko aj aD aH):=by
 refine F.ok zY (fun vs H Q E h=>?_) (fun cdv A outer s H vs Q E hr h=>?_)
 ·obtain⟨l,dx,rfl,_⟩:=h
  rfl
 ·obtain⟨l,dx,rfl,hl,k⟩:=h
  refine⟨_,(aF (dj (jc (pv 0) eN (hr.mono (by decide)) (ak (bG aC) aC)))),?_⟩
  refine⟨_,rfl,l,dx,_,rfl,hl,rfl,Nat.zero_le _,fun za hza=>?_⟩
  have hl2:upd H za (.lst []) l=some (.ins aj dx []):=by rw[aJ (aG hl hza)];exact hl
  refine⟨l,dx,za,[],rfl,hl2,.inl rfl,fun H' pa ra wa h1 h2 h3 h4 f1 f2 f3 n1 n2 n3 kp=>?_⟩
  obtain⟨z1,f1⟩:=bw f1
  obtain⟨z2,f2⟩:=bw f2
  obtain⟨z3,f3⟩:=bw f3
  have hz:H' za=some (.lst (nv [])):=kp za _ aA (by simpa using Ne.symm (aG hl hza))
  refine k H' _ (R0 h1 hz h2 h3 h4 n1 n2 n3 (Ne.symm z1) (Ne.symm z2) (Ne.symm z3)) ⟨hza,f1,f2,f3,fun b hb=>(nomatch hb),fun b o e=>?_⟩ fun b o e nb=>kp b o (by rw[aJ (aG e hza)];exact e) nb
  have e:upd (fun _=>none) za (.lst (nv [])) b=some o:=e
  by_cases q:b=za
  ·rw[q];exact hza
  ·rw[aJ q] at e
   cases e
def Fq(cR:Addr):Sp:=fun vs H Q _=>∃(x dx ca:Addr) (g b d:Int),vs=[.ref x,.int g,.int b,.ref ca,.int d]∧H x=some (.ins cR dx [])∧
 ∀H' la ce so,H' x=some (.ins cR dx (uf g b ca d 0 la ce so))→H' la=some (.lst [])→H' ce=some (.lst [])→H' so=some (.dK [])→H la=none→H ce=none→H so=none→la≠ce→aL [x] H H'→Q .non H'
theorem Kr(F:Fun K "__init__" "Rule.__init__" uG f fd)(T:Txt K mg aD aK aH au aj):bJ P w K mg base CX0 1 f fd ["self","group","block","condition","doing"] (Fq aD):=by
 refine F.ok J5 (fun vs H Q E h=>?_) (fun cdv A outer s H vs Q E hr h=>?_)
 ·obtain⟨x,dx,ca,g,b,d,rfl,_⟩:=h
  rfl
 ·obtain⟨x,dx,ca,g,b,d,rfl,hx,k⟩:=h
  refine⟨_,(aB (dX (pv 0) (pv 1) rfl)
   (aB (dX (pv 0) (pv 2) rfl)
   (aB (dX (pv 0) (pv 3) rfl)
   (aB (dX (pv 0) (pv 4) rfl)
   (aB (dX (pv 0) bB rfl)
   (aB (dX (pv 0) (bG aC) rfl)
   (aB (dX (pv 0) (bG aC) rfl)
   (aF (dX (pv 0) M9 rfl))))))))),?_⟩
  refine⟨_,rfl,_,rfl,x,_,dx,_,rfl,hx,T.bC,T.rJ,(by show 0<1000;decide),?_⟩
  refine⟨_,rfl,_,rfl,x,_,dx,_,rfl,aA,T.bC,T.mL,(by show 1<1000;decide),?_⟩
  refine⟨_,rfl,_,rfl,x,_,dx,_,rfl,aA,T.bC,T.iD,(by show 2<1000;decide),?_⟩
  refine⟨_,rfl,_,rfl,x,_,dx,_,rfl,aA,T.bC,T.fJ,(by show 3<1000;decide),?_⟩
  refine⟨_,rfl,x,_,dx,_,rfl,aA,T.bC,T.dG,(by show 4<1000;decide),?_⟩
  refine⟨Nat.zero_le _,fun la hla=>?_⟩
  obtain⟨nla,Hh⟩:=bw hla
  obtain⟨_,Hh⟩:=bw Hh
  obtain⟨_,Hh⟩:=bw Hh
  obtain⟨_,Hh⟩:=bw Hh
  obtain⟨_,Hh⟩:=bw Hh
  refine⟨_,rfl,x,_,dx,_,rfl,(by rw[aJ (Ne.symm nla),aA]),T.bC,T.dH,(by show 5<1000;decide),?_⟩
  refine⟨Nat.zero_le _,fun ce hce=>?_⟩
  obtain⟨nce,vV⟩:=bw hce
  obtain⟨ncl,vV⟩:=bw vV
  obtain⟨_,vV⟩:=bw vV
  obtain⟨_,vV⟩:=bw vV
  obtain⟨_,vV⟩:=bw vV
  obtain⟨_,vV⟩:=bw vV
  obtain⟨_,vV⟩:=bw vV
  refine⟨_,rfl,x,_,dx,_,rfl,(by rw[aJ (Ne.symm nce),aA]),T.bC,T.rK,(by show 6<1000;decide),?_⟩
  intro so hso
  obtain⟨nso,pN⟩:=bw hso
  obtain⟨nsc,pN⟩:=bw pN
  obtain⟨_,pN⟩:=bw pN
  obtain⟨nsl,pN⟩:=bw pN
  obtain⟨_,pN⟩:=bw pN
  obtain⟨_,pN⟩:=bw pN
  obtain⟨_,pN⟩:=bw pN
  obtain⟨_,pN⟩:=bw pN
  obtain⟨_,pN⟩:=bw pN
  refine⟨_,rfl,x,_,dx,_,rfl,(by rw[aJ (Ne.symm nso),aA]),T.bC,T.m9,(by show 7<1000;decide),?_⟩
  refine k _ la ce so aA (by rw[aJ nla,aJ (Ne.symm nsl),aJ nla,aJ (Ne.symm ncl),aJ nla,aA]) (by rw[aJ nce,aJ (Ne.symm nsc),aJ nce,aA]) (by rw[aJ nso,aA]) Hh vV pN (Ne.symm ncl) ?_
  intro c o e nb
  have nb:c≠x:=by simpa using nb
  rw[aJ nb,aJ (aG e pN),aJ nb,aJ (aG e vV),aJ nb,aJ (aG e Hh),aJ nb,aJ nb,aJ nb,aJ nb,aJ nb]
  exact e
def yN(cW:Addr):Sp:=fun vs H Q _=>∃(x dx sa:Addr) (g:Int),vs=[.ref x,.int g,.ref sa]∧H x=some (.ins cW dx [])∧
 ∀H' d,H' x=some (.ins cW dx (wf g sa d))→H' d=some (.dK [])→H d=none→aL [x] H H'→Q .non H'
theorem Ks(F:Fun K "__init__" "Word.__init__" uM f fd)(T:Txt K mg aD aK aH au aj):bJ P w K mg base CX0 1 f fd ["self","group","stems"] (yN aH):=by
 refine F.ok J8 (fun vs H Q E h=>?_) (fun cdv A outer s H vs Q E hr h=>?_)
 ·obtain⟨x,dx,sa,g,rfl,_⟩:=h
  rfl
 ·obtain⟨x,dx,sa,g,rfl,hx,k⟩:=h
  refine⟨_,(aB (dX (pv 0) (pv 1) rfl)
   (aB (dX (pv 0) (pv 2) rfl)
   (aF (dX (pv 0) M9 rfl)))),?_⟩
  refine⟨_,rfl,_,rfl,x,_,dx,_,rfl,hx,T.iG,T.jP,(by show 0<1000;decide),?_⟩
  refine⟨_,rfl,_,rfl,x,_,dx,_,rfl,aA,T.iG,T.yH,(by show 1<1000;decide),?_⟩
  intro d hd
  obtain⟨nd,hd0⟩:=bw hd
  obtain⟨_,hd0⟩:=bw hd0
  refine⟨_,rfl,x,_,dx,_,rfl,(by rw[aJ (Ne.symm nd),aA]),T.iG,T.eG,(by show 2<1000;decide),?_⟩
  refine k _ d aA (by rw[aJ nd,aA]) hd0 ?_
  intro c o e nb
  have nb:c≠x:=by simpa using nb
  rw[aJ nb,aJ (aG e hd0),aJ nb,aJ nb]
  exact e
def z9:Sp:=fun vs H Q _=>∃(l:Addr) (xs:List V) (v:V) (m:Nat),vs=[.ref l,v,.int (m:Nat)]∧H l=some (.lst xs)∧m≤1000∧
 (m≤xs.length→∀H' q,Same H H'→H q=none→H' q=some (.lst [.int (-5)])→Q (.ref q) H')∧
 (xs.length<m→∀H' q,aL [l] H H'→H' l=some (.lst (xs++[v]))→H q=none→H' q=some (.lst [.int (xs.length:Nat)])→Q (.ref q) H')
theorem Yk(F:Fun K "keep" "keep" Qu f fd)(T:Txt K mg aD aK aH au aj):bJ P w K mg base CX0 1 f fd ["kept","thing","most"] (z9):=by
 refine F.ok Yh (fun vs H Q E h=>?_) (fun cdv A outer s H vs Q E hr h=>?_)
 ·obtain⟨l,xs,v,m,rfl,_⟩:=h
  rfl
 ·obtain⟨l,xs,v,m,rfl,hl,hm,k1,k2⟩:=h
  refine⟨_,(aB (bI (aY Mr (bA aV (by rfl) T.cV PySem.boot_len (ak (pv 0) aC)) (pv 2) (bx _)) (aF (aP (bG (ak (bW T.Qw) aC)))) aZ)
   (aB (dj (jw PySem.F.plainAttrs_list PySem.F.slot_list_append PySem.F.type_list_append fQ (pv 0) (ak (pv 1) aC)))
   (aF (aP (bG (ak (dF lK (bA aV (by rfl) T.cV PySem.boot_len (ak (pv 0) aC)) bB) aC)))))),?_⟩
  refine⟨_,rfl,_,_,rfl,.inl (SqL.of hl),_,rfl,_,_,rfl,rfl,_,rfl,gA (fun c=>?_) (fun c=>?_)⟩
  ·have c:(m:Int)≤(xs.length:Int):=of_decide_eq_true c
   exact⟨by show 1≤sizeLine;decide,fun q hq=>k1 (by omega) _ q (Same.new hq) hq aA⟩
  ·have c: ¬(m:Int)≤(xs.length:Int):=fun q=>c (decide_eq_true q)
   refine⟨_,rfl,.inl ⟨rfl,_,SqL.of hl⟩,_,rfl,l,_,_,rfl,rfl,hl,Nat.lt_of_lt_of_le (show xs.length<1000 by omega) (by decide),?_⟩
   refine⟨_,rfl,_,_,rfl,.inl (SqL.of aA),_,_,rfl,rfl,(by show 1≤sizeLine;decide),fun q hq=>?_⟩
   obtain⟨nq,hq0⟩:=bw hq
   refine k2 (by omega) _ q (fun b o e nb=>?_) (by rw[aJ (Ne.symm nq),aA]) hq0 ?_
   ·have nb:b≠l:=by simpa using nb
    rw[aJ (aG e hq0),aJ nb]
    exact e
   ·rw[aA]
    have e:((((xs++[v]).length:Nat):Int) - 1)=((xs.length:Nat):Int):=by
     rw[List.length_append,List.length_singleton]
     omega
    show some (HO.lst [.int ((((xs++[v]).length:Nat):Int) - 1)])=_
    rw[e]
end
theorem bU(b:List Nat):(bh b).length=b.length:=List.length_map ..
section
variable{P:Program}{w:World}{K:PySem.W.Frag}{mg:Str→Option Value}{base:Heap}{au aD aj aH aK:Addr}{f:Addr}{fd:FuncData}
def yO:Sp:=fun vs H Q _=>∃(a:Addr) (as:List Addr) (ts:List (List Nat)),vs=[.ref a]∧H a=some (.lst (as.map V.ref))∧bD H as (ts.map bh)∧∀H',Same H H'→Q (.bl (Sx03.stemsOk ts)) H'
theorem Ku(F:Fun K "are_stems" "are_stems" uN f fd)(T:Txt K mg aD aK aH au aj):bJ P w K mg base CX0 1 f fd ["stems"] (yO):=by
 refine F.ok yE (fun vs H Q E h=>?_) (fun cdv A outer s H vs Q E hr h=>?_)
 ·obtain⟨a,as,ts,rfl,_⟩:=h
  rfl
 ·obtain⟨a,as,ts,rfl,hA,hL,k⟩:=h
  have hl:(as.map V.ref).length=ts.length:=by rw[List.length_map,hL.1,List.length_map]
  refine⟨_,(aB (bI (xX (aY mW (bA aV (by rfl) T.cV PySem.boot_len (ak (pv 0) aC)) bB (bx _)) (qM (aY tY (bA aV (by rfl) T.cV PySem.boot_len (ak (pv 0) aC)) (bW T.rO) (bx _)))).pt (aF (aP jD)) aZ)
   (aB (dU PassesOwn.never rfl (eV (pv 0)) (bF (i:=1) yE.nd rfl (by first|exact Or.inl rfl|exact Or.inr rfl))
   (aF (bI (aY tY (bA aV (by rfl) T.cV PySem.boot_len (ak (pv 1) aC)) (bW T.jR) (bx _)) (aF (aP jD)) aZ)))
   (aF (aP jD)))),?_⟩
  have no: ∀H',Same H H'→Sx03.stemsOk ts=false→Q (.bl false) H':=fun H' hH e=>by rw[e] at k;exact k H' hH
  refine⟨_,rfl,_,_,rfl,.inl (SqL.of hA),_,_,rfl,rfl,_,rfl,gA (fun c=>cB (no H (Same.refl H) ?_)) (fun c=>⟨_,rfl,_,_,rfl,.inl (SqL.of hA),_,_,rfl,rfl,_,rfl,gA (fun c'=>no H (Same.refl H) ?_) (fun c'=>?_)⟩)⟩
  ·have c:((as.map V.ref).length:Int)<1:=of_decide_eq_true c
   unfold Sx03.stemsOk
   rw[show decide (1≤ts.length)=false from decide_eq_false (by omega)]
   rfl
  ·have c':(4:Int)<((as.map V.ref).length:Int):=of_decide_eq_true c'
   unfold Sx03.stemsOk
   rw[show decide (ts.length≤4)=false from decide_eq_false (by omega),Bool.false_and,Bool.and_false]
  ·have c: ¬((as.map V.ref).length:Int)<1:=fun q=>c (decide_eq_true q)
   have c': ¬(4:Int)<((as.map V.ref).length:Int):=fun q=>c' (decide_eq_true q)
   refine⟨_,rfl,a,rfl,⟨_,SqL.of hA⟩,gY (K:=K) (a:=a) (xs:=as.map V.ref) (fun i σ H'=>∃v,σ=[some (.ref a),v]∧Same H H'∧∀b∈ts.take i,b.length≤32) ⟨none,rfl,Same.refl H,fun n h=>by cases h⟩ (fun i σ H' _ ⟨_,_,s,_⟩=>SqL.of (s _ _ hA)) ?_ ?_⟩
   ·rintro i z σ H' hz ⟨v,rfl,hH,hv⟩
    obtain⟨b,hb,rfl⟩:=bO hz
    have hi:i<ts.length:=by
     have:=(List.getElem?_eq_some_iff.mp hz).1
     omega
    have hx:ts[i]?=some ts[i]:=List.getElem?_eq_getElem hi
    have hB:H b=some (.lst (iv (bh ts[i]))):=hL.2 i b (bh ts[i]) hb (by rw[List.getElem?_map,hx];rfl)
    have hlb:(iv (bh ts[i])).length=ts[i].length:=by rw[List.length_map,bU]
    refine⟨_,rfl,_,_,rfl,.inl (SqL.of (hH _ _ hB)),_,_,rfl,rfl,_,rfl,gA (fun d=>?_) (fun d=>?_)⟩
    ·have d:(32:Int)<((iv (bh ts[i])).length:Int):=of_decide_eq_true d
     refine no H' hH ?_
     unfold Sx03.stemsOk
     rw[show(ts.all fun b=>decide (b.length≤32))=false by
      rw[List.all_eq_false]
      exact⟨ts[i],List.getElem_mem hi,by simp;omega⟩,Bool.and_false,Bool.and_false]
    ·have d: ¬(32:Int)<((iv (bh ts[i])).length:Int):=fun q=>d (decide_eq_true q)
     refine⟨some (.ref b),rfl,hH,fun x hm=>?_⟩
     rw[cI hx] at hm
     rcases List.mem_append.mp hm with hm|hm
     ·exact hv x hm
     ·have e:x=ts[i]:=List.mem_singleton.mp hm
      rw[e];omega
   ·rintro σ H' ⟨v,rfl,hH,hv⟩
    rw[hl,List.take_length] at hv
    have e:Sx03.stemsOk ts=true:=by
     unfold Sx03.stemsOk
     rw[show decide (1≤ts.length)=true from decide_eq_true (by omega),show decide (ts.length≤4)=true from decide_eq_true (by omega),show(ts.all fun b=>decide (b.length≤32))=true by
      rw[List.all_eq_true]
      exact fun b hb=>by simpa using hv b hb]
     rfl
    rw[e] at k
    exact k H' hH
def Kv:Option (List Nat)→List Int
 |none=>[0]
 |some b=>1::(b.length:Int)::bh b
def Aa(K:PySem.W.Frag)(c:Addr):Sp:=fun vs H Q _=>∃(r a:Addr) (ns:List Int) (o:Option (List Nat)) (rest:List Int),vs=[.ref r]∧gG K c H r a ns (Kv o++rest)∧
 (o=none→∀H',aL [r] H H'→gG K c H' r a ns rest→Q .non H')∧
 (∀b,o=some b→∀H' q,aL [r] H H'→gG K c H' r a ns rest→H q=none→H' q=some (.lst (nv b))→Q (.ref q) H')
theorem gG.at{K:PySem.W.Frag}{c:Addr}{H:Hp}{r a:Addr}{ns rest:List Int}(h:gG K c H r a ns rest): ∃dx,∃p:Nat,H r=some (.ins c dx (rf a p false)):=by
 obtain⟨dx,p,h1,_⟩:=h
 exact⟨dx,p,h1⟩
theorem rW{H H':Hp}{r q:Addr}(k:aL [r] H H')(h:H' q=none)(n:q≠r):H q=none:=by
 cases e:H q with
 |none=>rfl
 |some o=>rw[k q o e (by simpa using n)] at h;cases h
theorem gG.free{K:PySem.W.Frag}{c:Addr}{H H':Hp}{r a:Addr}{ns rest:List Int}(h:gG K c H' r a ns rest)(k:aL [r] H H'){q:Addr}(hq:H' q=none):H q=none:=by
 obtain⟨_,_,z⟩:=h.ins
 exact rW k hq (Ne.symm (aG z hq))
theorem Ab(F:Fun K "read_odd_form" "read_odd_form" lR f fd)(T:Txt K mg aD aK aH au aj)(aN:GM P w K mg base au "take" 2 ["self"] (gD K au))(aM:GM P w K mg base au "take_list" 3 ["self"] (cQ K au)):bJ P w K mg base CX0 4 f fd ["told"] (Aa K au):=by
 refine F.ok zX (fun vs H Q E h=>?_) (fun cdv A outer s H vs Q E hr h=>?_)
 ·obtain⟨r,a,ns,o,rest,rfl,_⟩:=h
  rfl
 ·obtain⟨r,a,ns,o,rest,rfl,hR,k1,k2⟩:=h
  refine⟨_,(aB (bI (aY nU (bf (pv 0) aN (hr.mono (by decide))) bB (bx _)) (aF (aP dW)) aZ)
   (aF (aP (bf (pv 0) aM (hr.mono (by decide)))))),?_⟩
  obtain⟨dx,p,h1⟩:=hR.at
  cases o with
  |none=>
   refine⟨_,rfl,r,_,_,rfl,h1,dN,r,a,ns,0,rest,rfl,hR,fun H1 kp hR1=>⟨rfl,_,rfl,?_⟩⟩
   exact cB (k1 rfl H1 kp hR1)
  |some b=>
   refine⟨_,rfl,r,_,_,rfl,h1,dN,r,a,ns,1,(b.length:Int)::(bh b++rest),rfl,hR,fun H1 kp hR1=>⟨rfl,_,rfl,?_⟩⟩
   refine cA ?_
   obtain⟨dx',p',h1'⟩:=hR1.at
   rw[←bU b] at hR1
   exact⟨_,rfl,r,_,_,rfl,h1',cG,r,a,ns,bh b,rest,rfl,hR1,fun H2 q kp2 hR2 hq0 hq=>k2 b rfl H2 q (kp.trans kp2) hR2 (hR1.free kp hq0) hq⟩
def CP(K:PySem.W.Frag):Sp:=fun vs H Q _=>∃(v:V) (o:Option (List Nat)),vs=[v]∧(o=none→v= .non)∧(∀b,o=some b→∃a,v= .ref a∧SqL K H a (nv b))∧∀H',Same H H'→Q (.bl (o.all fun z=>decide (z.length≤64))) H'
theorem Fv(F:Fun K "is_odd_form" "is_odd_form" pA f fd)(T:Txt K mg aD aK aH au aj):bJ P w K mg base CX0 1 f fd ["form"] (CP K):=by
 refine F.ok Et (fun vs H Q E h=>?_) (fun cdv A outer s H vs Q E hr h=>?_)
 ·obtain⟨v,o,rfl,_⟩:=h
  rfl
 ·obtain⟨v,o,rfl,h1,h2,k⟩:=h
  refine⟨_,(aF (aP (YH (nW zK (pv 0) dW (bx _)) (Dj (nW Dr (bA aV (by rfl) T.cV PySem.boot_len (ak (pv 0) aC)) (bW T.kj) (bx _)))))),?_⟩
  cases o with
  |none=>
   obtain rfl:=h1 rfl
   exact⟨_,rfl,rfl,_,rfl,cB (k H (Same.refl H))⟩
  |some b=>
   obtain⟨a,rfl,hS⟩:=h2 b rfl
   refine⟨_,rfl,rfl,_,rfl,cA ⟨_,rfl,a,_,rfl,.inl hS,_,_,rfl,rfl,?_⟩⟩
   have e:decide ((((nv b).length:Nat):Int)≤64)=decide (b.length≤64):=decide_eq_decide.mpr (by rw[List.length_map,List.length_map];omega)
   show Q (.bl (decide ((((nv b).length:Nat):Int)≤64))) H
   rw[e]
   exact k H (Same.refl H)
def R3:Sx03.Op→Bool
 | .instead k _=>decide (k≤8)
 | .twice k=>decide (k≤8)
 | .stem j=>decide (j≤3)
 |_=>true
def CQ(ds:List Nat):Sx03.Op→Bool
 | .refer l=>condB ds (dJ l)
 |op=>(bL op).all fun x=>decide (x.length≤16)
def w6:Sx03.Op→Int
 | .stem _=>1
 | .refer _=>0
 | .gap=>0
 |_=>2
def mj:Sx03.Op→Int
 | .stem _=>1
 | .refer _=>0
 | .gap=>0
 |_=>5
def QB:Sx03.Op→V
 | .instead _ _=> .int 8
 | .twice _=> .int 8
 | .stem _=> .int 3
 |_=> .non
theorem Wz{ds:List Nat}{l:Sx03.Cond}:condB ds (dJ l)=(l.length==ds.length&&(l.zip ds).all fun x=>match x.1 with
  |some v=>decide (v<x.2)
  |none=>true):=by
 rw[Bool.eq_iff_iff,mR,Bool.and_eq_true,beq_iff_eq,List.all_eq_true]
 unfold dJ
 rw[List.length_map]
 refine and_congr_right fun _=>⟨fun h x hx=>?_,fun h i z n hz hn=>?_⟩
 ·obtain⟨i,hi⟩:=List.mem_iff_getElem?.mp hx
  rw[List.getElem?_zip_eq_some] at hi
  have:=h i (fO x.1) x.2 (by rw[List.getElem?_map,hi.1];rfl) hi.2
  obtain⟨x1,x2⟩:=x
  cases x1 with
  |none=>rfl
  |some v=>
   have this:(-1:Int)≤(v:Int)∧(v:Int)<x2:=this
   exact decide_eq_true (by omega)
 ·obtain⟨o,ho,rfl⟩:=bO hz
  have hm:(o,n)∈l.zip ds:=List.mem_of_getElem? (i:=i) (by rw[List.getElem?_zip_eq_some];exact⟨ho,hn⟩)
  have:=h _ hm
  cases o with
  |none=>show(-1:Int)≤ -1∧(-1:Int)<n;omega
  |some v=>
   have this:v<n:=of_decide_eq_true this
   show(-1:Int)≤(v:Int)∧(v:Int)<n
   omega
theorem R4(ds:List Nat)(b:Nat)(op:Sx03.Op):Sx03.opOk ds b op=(decide (w6 op≤(b:Int)∧(b:Int)≤mj op)&&(R3 op&&CQ ds op)):=by
 have e1:decide ((2:Int)≤(b:Int)∧(b:Int)≤5)=decide (2≤b∧b≤5):=decide_eq_decide.mpr (by omega)
 have e2:decide ((1:Int)≤(b:Int)∧(b:Int)≤1)=(b==1):=by
  rw[Bool.eq_iff_iff,decide_eq_true_eq,beq_iff_eq];omega
 have e3:decide ((0:Int)≤(b:Int)∧(b:Int)≤0)=(b==0):=by
  rw[Bool.eq_iff_iff,decide_eq_true_eq,beq_iff_eq];omega
 cases op<;>simp only[Sx03.opOk,w6,mj,R3,CQ,bL,List.all_cons,List.all_nil,bU,Bool.and_true,Bool.true_and,Wz]
 all_goals first
  |exact congrArg (fun z=>z&&_) e1.symm
  |exact congrArg (fun z=>z&&_) e2.symm
  |exact congrArg (fun z=>z&&_) e3.symm
  |exact e3.symm
def rY(cR:Addr):Sp:=fun vs H Q _=>∃(a:Addr) (k b:Int) (l:List Int) (op:Sx03.Op) (ce so:Addr),vs=[.ref a]∧iQ cR H a k b l op ce so∧∀H',Same H H'→Q (.bl (R3 op)) H'
theorem Fw(F:Fun K "fits_number" "fits_number" o7 f fd)(T:Txt K mg aD aK aH au aj):bJ P w K mg base CX0 1 f fd ["rule"] (rY aD):=by
 refine F.ok uI (fun vs H Q E h=>?_) (fun cdv A outer s H vs Q E hr h=>?_)
 ·obtain⟨a,kk,b,l,op,ce,so,rfl,_⟩:=h
  rfl
 ·obtain⟨a,kk,b,l,op,ce,so,rfl,hR,k⟩:=h
  obtain⟨dx,ca,la,as,h1,h2,h3,h4,_⟩:=hR.ex
  refine⟨_,(aB (aX (i:=1) uI.nd rfl (by first|exact Or.inl rfl|exact Or.inr rfl) (cJ tZ (wu T.nj) (aW (pv 0) rfl) (fun _ _=>rfl)))
   (aF (aP (YH (nW zK (pv 1) dW (bx _)) (Dj (xZ Dr Dr bB (aW (pv 0) rfl) (pv 1))))))),?_⟩
  intro ta hta
  refine⟨_,rfl,a,_,dx,_,_,rfl,h1,T.bC,T.fJ,nG,ta,_,_,QB op,rfl,rfl,hta H,(by cases op<;>rfl),?_⟩
  cases op with
  |instead n b=>
   refine⟨_,rfl,rfl,_,rfl,cA ⟨_,rfl,a,_,dx,_,_,rfl,h1,T.bC,T.dG,kE,_,_,rfl,rfl,_,rfl,gA (fun _=>⟨_,rfl,_,_,rfl,rfl,?_⟩) (fun c=>?_)⟩⟩
   ·have e:decide ((n:Int)≤8)=decide (n≤8):=decide_eq_decide.mpr (by omega)
    show Q (.bl (decide ((n:Int)≤8))) H
    rw[e]
    exact k H (Same.refl H)
   ·exact absurd (decide_eq_true (show(0:Int)≤(n:Int) by omega)) c
  |twice n=>
   refine⟨_,rfl,rfl,_,rfl,cA ⟨_,rfl,a,_,dx,_,_,rfl,h1,T.bC,T.dG,kE,_,_,rfl,rfl,_,rfl,gA (fun _=>⟨_,rfl,_,_,rfl,rfl,?_⟩) (fun c=>?_)⟩⟩
   ·have e:decide ((n:Int)≤8)=decide (n≤8):=decide_eq_decide.mpr (by omega)
    show Q (.bl (decide ((n:Int)≤8))) H
    rw[e]
    exact k H (Same.refl H)
   ·exact absurd (decide_eq_true (show(0:Int)≤(n:Int) by omega)) c
  |stem n=>
   refine⟨_,rfl,rfl,_,rfl,cA ⟨_,rfl,a,_,dx,_,_,rfl,h1,T.bC,T.dG,kE,_,_,rfl,rfl,_,rfl,gA (fun _=>⟨_,rfl,_,_,rfl,rfl,?_⟩) (fun c=>?_)⟩⟩
   ·have e:decide ((n:Int)≤3)=decide (n≤3):=decide_eq_decide.mpr (by omega)
    show Q (.bl (decide ((n:Int)≤3))) H
    rw[e]
    exact k H (Same.refl H)
   ·exact absurd (decide_eq_true (show(0:Int)≤(n:Int) by omega)) c
  |behind b=>exact⟨_,rfl,rfl,_,rfl,cB (k H (Same.refl H))⟩
  |ahead b=>exact⟨_,rfl,rfl,_,rfl,cB (k H (Same.refl H))⟩
  |change b c=>exact⟨_,rfl,rfl,_,rfl,cB (k H (Same.refl H))⟩
  |refer l=>exact⟨_,rfl,rfl,_,rfl,cB (k H (Same.refl H))⟩
  |gap=>exact⟨_,rfl,rfl,_,rfl,cB (k H (Same.refl H))⟩
def xg(K:PySem.W.Frag)(cR:Addr):Sp:=fun vs H Q _=>∃(z a:Addr) (ds:List Nat) (k b:Int) (l:List Int) (op:Sx03.Op) (ce so:Addr),vs=[.ref z,.ref a]∧SqL K H z (nv ds)∧iQ cR H a k b l op ce so∧∀H',Same H H'→Q (.bl (CQ ds op)) H'
theorem Kw(F:Fun K "fit_lists" "fit_lists" uJ f fd)(T:Txt K mg aD aK aH au aj)(cY:GF P w K mg base "is_condition" 1 ["sizes","values"] (lG K)):bJ P w K mg base CX0 2 f fd ["sizes","rule"] (xg K aD):=by
 refine F.ok yD (fun vs H Q E h=>?_) (fun cdv A outer s H vs Q E hr h=>?_)
 ·obtain⟨z,a,ds,kk,b,l,op,ce,so,rfl,_⟩:=h
  rfl
 ·obtain⟨z,a,ds,kk,b,l,op,ce,so,rfl,hZ,hR,k⟩:=h
  obtain⟨dx,ca,la,as,h1,h2,h3,h4,_⟩:=hR.ex
  refine⟨_,(aB (bI (aY nU (aW (pv 1) rfl) (bW T.iJ) (bx _)) (aF (aP (aQ cY (hr.mono (by decide)) (ak (pv 0) (ak (cJ bK (aW (pv 1) rfl) bB (fun _ _=>rfl)) aC))))) aZ)
   (aB (dU PassesOwn.never rfl (eV (aW (pv 1) rfl)) (bF (i:=2) yD.nd rfl (by first|exact Or.inl rfl|exact Or.inr rfl))
   (aF (bI (aY tY (bA aV (by rfl) T.cV PySem.boot_len (ak (pv 2) aC)) (bW T.jQ) (bx _)) (aF (aP jD)) aZ)))
   (aF (aP jD)))),?_⟩
  refine⟨_,rfl,a,_,dx,_,_,rfl,h1,T.bC,T.fJ,nG,rfl,_,rfl,gA (fun c=>?_) (fun c=>?_)⟩
  ·have c:V.int (cT op)=V.int 6:=of_decide_eq_true c
   injection c with c
   cases op with
   |refer l'=>
    have hx:as[0]?=some (as[0]'(by rw[h4.1];exact Nat.zero_lt_one)):=List.getElem?_eq_getElem _
    have h5:=h4.2 0 _ (dJ l') hx rfl
    refine⟨_,rfl,_,rfl,a,_,dx,_,_,rfl,h1,T.bC,T.dH,jV,la,_,_,_,rfl,rfl,SqL.of h3,at_of (j:=0) rfl (by rw[List.getElem?_map,hx];rfl),z,_,ds,dJ l',rfl,hZ,SqL.of h5,fun H' hH=>?_⟩
    exact k H' hH
   |_=>exact absurd c (by simp only[cT];decide)
  ·have e:CQ ds op=(bL op).all fun x=>decide (x.length≤16):=by
    cases op with
    |refer l'=>exact absurd (decide_eq_true rfl) c
    |_=>rfl
   rw[e] at k
   have hl:(as.map V.ref).length=(bL op).length:=by rw[List.length_map,h4.1]
   refine⟨_,rfl,a,_,dx,_,_,rfl,h1,T.bC,T.dH,jV,la,rfl,⟨_,SqL.of h3⟩,gY (K:=K) (a:=la) (xs:=as.map V.ref) (fun i σ H'=>∃v,σ=[some (.ref z),some (.ref a),v]∧Same H H'∧∀b∈(bL op).take i,b.length≤16) ⟨none,rfl,Same.refl H,fun n h=>by cases h⟩ (fun i σ H' _ ⟨_,_,s,_⟩=>SqL.of (s _ _ h3)) ?_ ?_⟩
   ·rintro i y σ H' hz ⟨v,rfl,hH,hv⟩
    obtain⟨b,hb,rfl⟩:=bO hz
    have hi:i<(bL op).length:=by
     have:=(List.getElem?_eq_some_iff.mp hz).1
     omega
    have hx:(bL op)[i]?=some (bL op)[i]:=List.getElem?_eq_getElem hi
    have hB:=h4.2 i b _ hb hx
    refine⟨_,rfl,_,_,rfl,.inl (SqL.of (hH _ _ hB)),_,_,rfl,rfl,_,rfl,gA (fun d=>?_) (fun d=>?_)⟩
    ·have d:(16:Int)<((iv (bL op)[i]).length:Int):=of_decide_eq_true d
     rw[List.length_map] at d
     have e:((bL op).all fun x=>decide (x.length≤16))=false:=by
      rw[List.all_eq_false]
      exact⟨(bL op)[i],List.getElem_mem hi,by simp;omega⟩
     rw[e] at k
     exact k H' hH
    ·have d: ¬(16:Int)<((iv (bL op)[i]).length:Int):=fun q=>d (decide_eq_true q)
     rw[List.length_map] at d
     refine⟨some (.ref b),rfl,hH,fun x hm=>?_⟩
     rw[cI hx] at hm
     rcases List.mem_append.mp hm with hm|hm
     ·exact hv x hm
     ·have e:x=(bL op)[i]:=List.mem_singleton.mp hm
      rw[e];omega
   ·rintro σ H' ⟨v,rfl,hH,hv⟩
    rw[hl,List.take_length] at hv
    have e:((bL op).all fun x=>decide (x.length≤16))=true:=by
     rw[List.all_eq_true]
     exact fun b hb=>by simpa using hv b hb
    rw[e] at k
    exact k H' hH
def Ky(K:PySem.W.Frag)(cR:Addr):Sp:=fun vs H Q _=>∃(z a:Addr) (ds:List Nat) (k:Int) (b:Nat) (l:List Int) (op:Sx03.Op) (ce so:Addr),vs=[.ref z,.ref a]∧SqL K H z (nv ds)∧iQ cR H a k (b:Nat) l op ce so∧∀H',Same H H'→Q (.bl (condB ds l&&Sx03.opOk ds b op)) H'
theorem N6(F:Fun K "is_sound" "is_sound" wQ f fd)(T:Txt K mg aD aK aH au aj)(cY:GF P w K mg base "is_condition" 1 ["sizes","values"] (lG K))(pO:GF P w K mg base "fits_number" 1 ["rule"] (rY aD))(u6:GF P w K mg base "fit_lists" 2 ["sizes","rule"] (xg K aD)):bJ P w K mg base CX0 3 f fd ["sizes","rule"] (Ky K aD):=by
 refine F.ok NK (fun vs H Q E h=>?_) (fun cdv A outer s H vs Q E hr h=>?_)
 ·obtain⟨z,a,ds,kk,b,l,op,ce,so,rfl,_⟩:=h
  rfl
 ·obtain⟨z,a,ds,kk,b,l,op,ce,so,rfl,hZ,hR,k⟩:=h
  obtain⟨dx,ca,la,as,h1,h2,h3,h4,_⟩:=hR.ex
  rw[R4] at k
  refine⟨_,(aB (bI (gM (fM (aQ cY (hr.mono (by decide)) (ak (pv 0) (ak (aW (pv 1) rfl) aC))))) (aF (aP jD)) aZ)
   (aB (bI (xX (aY mW (aW (pv 1) rfl) (cJ tZ (wu T.Fb) (aW (pv 1) rfl) (fun _ _=>rfl)) (bx _)) (qM (aY tY (aW (pv 1) rfl) (cJ tZ (wu T.G8) (aW (pv 1) rfl) (fun _ _=>rfl)) (bx _)))).pt (aF (aP jD)) aZ)
   (aF (aP (Pu (aQ pO (hr.mono (by decide)) (ak (pv 1) aC)) (Dj (aQ u6 (hr.mono (by decide)) (ak (pv 0) (ak (pv 1) aC))))))))),?_⟩
  refine⟨_,rfl,_,rfl,a,_,dx,_,_,rfl,h1,T.bC,T.iD,rT,z,ca,ds,l,rfl,hZ,SqL.of h2,fun H1 hH=>⟨_,rfl,?_⟩⟩
  cases hc:condB ds l with
  |false=>
   rw[hc] at k
   exact cB (k H1 hH)
  |true=>
   rw[hc,Bool.true_and] at k
   refine cA ?_
   have h1':=hH _ _ h1
   have no: ¬(w6 op≤(b:Int)∧(b:Int)≤mj op)→Q (.bl false) H1:=fun q=>by
    rw[decide_eq_false q] at k
    exact k H1 hH
   refine⟨_,rfl,a,_,dx,_,_,rfl,h1',T.bC,T.mL,Fl,fun ta hta=>⟨_,rfl,a,_,dx,_,_,rfl,h1',T.bC,T.fJ,nG,ta,_,_,.int (w6 op),rfl,rfl,hta H1,(by cases op<;>rfl),_,_,rfl,rfl,_,rfl,gA (fun c=>cB (no ?_)) (fun c=>?_)⟩⟩
   ·have c:(b:Int)<w6 op:=of_decide_eq_true c
    omega
   ·have c: ¬(b:Int)<w6 op:=fun q=>c (decide_eq_true q)
    refine⟨_,rfl,a,_,dx,_,_,rfl,h1',T.bC,T.mL,Fl,fun tb htb=>⟨_,rfl,a,_,dx,_,_,rfl,h1',T.bC,T.fJ,nG,tb,_,_,.int (mj op),rfl,rfl,htb H1,(by cases op<;>rfl),_,_,rfl,rfl,_,rfl,gA (fun c'=>no ?_) (fun c'=>?_)⟩⟩
    ·have c':mj op<(b:Int):=of_decide_eq_true c'
     omega
    ·have c': ¬mj op<(b:Int):=fun q=>c' (decide_eq_true q)
     rw[decide_eq_true (show w6 op≤(b:Int)∧(b:Int)≤mj op by omega),Bool.true_and] at k
     refine⟨_,rfl,a,_,_,l,op,ce,so,rfl,hR.mono hH,fun H2 hH2=>⟨_,rfl,?_⟩⟩
     cases hn:R3 op with
     |false=>
      rw[hn] at k
      exact cA (k H2 (hH.trans hH2))
     |true=>
      rw[hn,Bool.true_and] at k
      exact cB ⟨_,rfl,_,rfl,z,a,ds,_,_,l,op,ce,so,rfl,(hH.trans hH2).seq hZ,hR.mono (hH.trans hH2),fun H3 hH3=>k H3 ((hH.trans hH2).trans hH3)⟩
end
def newH(H H':Hp):Hp:=fun b=>match H b with
 |none=>H' b
 |some _=>none
theorem iM{H H':Hp}{b:Addr}{o:HO}(h:H b=none)(h':H' b=some o):newH H H' b=some o:=by
 unfold newH
 rw[h]
 exact h'
theorem dO{H H':Hp}{b:Addr}{o:HO}(h:newH H H' b=some o):H b=none∧H' b=some o:=by
 unfold newH at h
 cases e:H b with
 |none=>rw[e] at h;exact⟨rfl,h⟩
 |some u=>rw[e] at h;cases h
theorem Uj{H H' H'':Hp}{bs:List Addr}(k:aL bs H' H'')(hb: ∀b∈bs,H b≠none):Same (newH H H') (newH H H''):=fun b o e=>by
 obtain⟨h1,h2⟩:=dO e
 exact iM h1 (k b o h2 fun q=>hb b q h1)
theorem Ac{H H' H'':Hp}(k:Same H' H''):Same (newH H H') (newH H H''):=Uj (bs:=[]) (aL.same k) fun b h=>(nomatch h)
def xq:Sx03.Op→List Int
 | .instead k _=>[(k:Int)]
 | .twice k=>[(k:Int)]
 | .stem j=>[(j:Int)]
 |_=>[]
theorem Je(op:Sx03.Op):0≤cT op∧cT op≤7:=by cases op<;>simp[cT]
theorem u9(op:Sx03.Op):(bL op).length≤2:=by cases op<;>simp[bL]
structure RB(cR x dx ca la ce so:Addr)(H H':Hp)(g b:Int)(l:List Int)(code num:Int)(as:List Addr)(xss:List (List Int)):Prop where
 obj:H' x=some (.ins cR dx (uf g b ca code num la ce so))
 cond:H' ca=some (.lst (iv l))
 lst:H' la=some (.lst (as.map V.ref))
 at_:bD H' as xss
 fx:H x=none
 fc:H ca=none
 fl:H la=none
 fa: ∀a∈as,H a=none
 ncl:ca≠la
 nal: ∀a∈as,a≠la
 cel:H' ce=some (.lst [])
 src:H' so=some (.dK [])
 fe:H ce=none
 fs:H so=none
 nce:ca≠ce
 nle:la≠ce
 nae: ∀a∈as,a≠ce
theorem RB.mono{cR x dx ca la ce so:Addr}{H H' H'':Hp}{g b:Int}{l:List Int}{code num:Int}{as:List Addr}{xss:List (List Int)}(B:RB cR x dx ca la ce so H H' g b l code num as xss){r:Addr}(k:aL [r] H' H'')(hr:H r≠none):RB cR x dx ca la ce so H H'' g b l code num as xss:=by
 have ne: ∀{c:Addr},H c=none→c∉[r]:=fun{c} h m=>by
  have e:c=r:=by simpa using m
  rw[e] at h
  exact hr h
 exact⟨k _ _ B.obj (ne B.fx),k _ _ B.cond (ne B.fc),k _ _ B.lst (ne B.fl),B.at_.mono fun a ha o e=>k a o e (ne (B.fa a ha)),B.fx,B.fc,B.fl,B.fa,B.ncl,B.nal,k _ _ B.cel (ne B.fe),k _ _ B.src (ne B.fs),B.fe,B.fs,B.nce,B.nle,B.nae⟩
theorem RB.raw{cR x dx ca la ce so:Addr}{H H':Hp}{g b:Int}{l:List Int}{as:List Addr}{op:Sx03.Op}(B:RB cR x dx ca la ce so H H' g b l (cT op) (yK op) as (bL op)):iQ cR (newH H H') x g b l op ce so:=
 ⟨dx,ca,la,as,iM B.fx B.obj,iM B.fc B.cond,iM B.fl B.lst,⟨B.at_.1,fun j a xs ha hx=>iM (B.fa a (List.mem_of_getElem? ha)) (B.at_.2 j a xs ha hx)⟩,B.nce,B.nle,B.nae⟩
section
variable{P:Program}{w:World}{K:PySem.W.Frag}{mg:Str→Option Value}{base:Heap}{au aD aj aH aK:Addr}{f:Addr}{fd:FuncData}
def xr(K:PySem.W.Frag)(c cR:Addr):Sp:=fun vs H Q _=>∃(r a:Addr) (ns:List Int) (g b:Int) (l:List Int) (op:Sx03.Op),vs=[.int g,.int b,.ref r]∧gG K c H r a ns ((l.length:Int)::(l++(cT op::(xq op++enc (bL op)))))∧
 ∀H' q ce so,aL [r] H H'→gG K c H' r a ns []→iQ cR (newH H H') q g b l op ce so→newH H H' ce=some (.lst [])→newH H H' so=some (.dK [])→Q (.ref q) H'
theorem Kz(F:Fun K "read_rule" "read_rule" uH f fd)(T:Txt K mg aD aK aH au aj)(aN:GM P w K mg base au "take" 2 ["self"] (gD K au))(aM:GM P w K mg base au "take_list" 3 ["self"] (cQ K au))(jq:GM P w K mg base au "all_taken" 2 ["self"] (nu K au))(QC:GC P w K mg base "Rule" aD 1 ["self","group","block","condition","doing"] (Fq aD)):bJ P w K mg base CX0 4 f fd ["group","block","told"] (xr K au aD):=by
 refine F.ok jO (fun vs H Q E h=>?_) (fun cdv A outer s H vs Q E hr h=>?_)
 ·obtain⟨r,a,ns,g,b,l,op,rfl,_⟩:=h
  rfl
 ·obtain⟨r,a,ns,g,b,l,op,rfl,hR,k⟩:=h
  refine⟨_,(aB (aX (i:=3) jO.nd rfl (by first|exact Or.inl rfl|exact Or.inr rfl) (bf (pv 2) aM (hr.mono (by decide))))
   (aB (aX (i:=4) jO.nd rfl (by first|exact Or.inl rfl|exact Or.inr rfl) (bf (pv 2) aN (hr.mono (by decide))))
   (aB (bI (xX (aY mW (pv 4) (bW T.rN) (bx _)) (qM (aY tY (pv 4) (bW T.vM) (bx _)))).pt (aF (aP dW)) aZ)
   (aB (aX (i:=5) jO.nd rfl (by first|exact Or.inl rfl|exact Or.inr rfl) (jd QC (hr.mono (by decide)) (ak (pv 0) (ak (pv 1) (ak (pv 3) (ak (pv 4) aC))))))
   (aB (bI (aY mD (cJ tZ (wu T.nj) (pv 4) (fun _ _=>rfl)) dW (bx _)) (aF (dX (pv 5) (bf (pv 2) aN (hr.mono (by decide))) rfl)) aZ)
   (aB (dU PassesOwn.never rfl (gH (by rfl) T.iI (ak (cJ tZ (wu T.Hf) (pv 4) (fun _ _=>rfl)) aC)) (bF (i:=6) jO.nd rfl (by first|exact Or.inl rfl|exact Or.inr rfl))
   (aF (dj (jw PySem.F.plainAttrs_list PySem.F.slot_list_append PySem.F.type_list_append fQ (aW (pv 5) rfl) (ak (bf (pv 2) aM (hr.mono (by decide))) aC)))))
   (aB (bI (gM (fM (bf (pv 2) jq (hr.mono (by decide))))) (aF (aP dW)) aZ)
   (aF (aP (pv 5)))))))))),?_⟩
  have hr0:H r≠none:=by
   obtain⟨_,_,z⟩:=hR.ins
   rw[z];exact fun q=>nomatch q
  obtain⟨dx0,p0,h0⟩:=hR.at
  refine⟨_,rfl,r,_,_,rfl,h0,cG,r,a,ns,l,_,rfl,hR,fun H1 ca k1 hR1 fc hc1=>?_⟩
  obtain⟨dx1,p1,h1⟩:=hR1.at
  refine⟨_,rfl,r,_,_,rfl,h1,dN,r,a,ns,cT op,_,rfl,hR1,fun H2 k2 hR2=>?_⟩
  have ncr:ca≠r:=fun e=>by rw[e] at fc;exact hr0 fc
  have hc2:H2 ca=some (.lst (iv l)):=k2 _ _ hc1 (by simpa using ncr)
  have k02:aL [r] H H2:=k1.trans k2
  have lo: ¬cT op<0:=by have:=Je op;omega
  have hi: ¬7<cT op:=by have:=Je op;omega
  refine⟨_,rfl,_,_,rfl,rfl,_,rfl,gA (fun c=>absurd (of_decide_eq_true c) lo) (fun _=>⟨_,rfl,_,_,rfl,rfl,_,rfl,gA (fun c=>absurd (of_decide_eq_true c) hi) (fun _=>?_)⟩)⟩
  refine⟨_,rfl,_,rfl,_,rfl,_,rfl,fun x dx hx hdx ndx=>?_⟩
  have sm:=jB (C:=aD) hx hdx ndx
  refine⟨x,dx,ca,g,b,cT op,rfl,aA,fun H3 la ce so e1 e2 c1 c2 e3 c3 c4 nle k3=>⟨rfl,?_⟩⟩
  have fx:H x=none:=hR2.free k02 hx
  have e3':H2 la=none:=sm.free e3
  have fl:H la=none:=hR2.free k02 e3'
  have c3':H2 ce=none:=sm.free c3
  have c4':H2 so=none:=sm.free c4
  have fe:H ce=none:=hR2.free k02 c3'
  have fso:H so=none:=hR2.free k02 c4'
  have k23:Same H2 H3:=fun b o e=>k3 b o (sm b o e) (by simpa using aG e hx)
  have k03:aL [r] H H3:=k02.trans (aL.same k23)
  have B3:RB aD x dx ca la ce so H H3 g b l (cT op) 0 [] []:=⟨e1,k23 _ _ hc2,e2,bD.nil,fx,fc,fl,fun a h=>(nomatch h),aG hc2 e3',fun a h=>(nomatch h),c1,c2,fe,fso,aG hc2 c3',nle,fun a h=>(nomatch h)⟩
  have hR3:=hR2.same k23
  have after: ∀H4,aL [r] H H4→gG K au H4 r a ns (enc (bL op))→RB aD x dx ca la ce so H H4 g b l (cT op) (yK op) [] []→BR (Xj (Vi (gQ (tOp (Vr K) (tGT K [.int (1),.int (1),.int (1),.int (2),.int (0),.int (0),.int (1),.int (0)]) (gW 4)) lC)) (wk 6) (Vd (tBM K "list" JD (Ms K (gW 5) "lists") (gQ (yc au "take_list" (cQ K au) [] E0 (gW 2) lC) lC)))) (BR (SN (Xi (tB (yc au "all_taken" (nu K au) [] E0 (gW 2) lC))) (Dk (tC .non)) HS) (Dk (gW 5))) {nx:=fun _ H'=>Q .non H',rt:=Q} [some (.int g),some (.int b),some (.ref r),some (.ref ca),some (.int (cT op)),some (.ref x),none] H4:=by
   intro H4 k4 hR4 B4
   intro ta hta
   refine⟨_,rfl,ta,_,_,.int ((bL op).length:Nat),rfl,rfl,hta H4,(by cases op<;>rfl),((bL op).length:Int),rfl,by have:=u9 op;omega,by have:=u9 op;omega,?_⟩
   refine vI (lo:=0) (n:=((bL op).length:Int).toNat) (fun i σ H'=>∃as v,σ=[some (.int g),some (.int b),some (.ref r),some (.ref ca),some (.int (cT op)),some (.ref x),v]∧aL [r] H H'∧gG K au H' r a ns (enc ((bL op).drop i))∧RB aD x dx ca la ce so H H' g b l (cT op) (yK op) as ((bL op).take i)) ⟨[],none,rfl,k4,hR4,B4⟩ ?_ ?_
   ·rintro i σ H' hi ⟨as,v,rfl,kp,hR',B⟩
    have hi:i<(bL op).length:=by omega
    have hx:(bL op)[i]?=some (bL op)[i]:=List.getElem?_eq_getElem hi
    have hlen:=u9 op
    rw[NP hx] at hR'
    obtain⟨dx',p',h'⟩:=hR'.at
    refine⟨_,rfl,x,_,dx,_,_,rfl,B.obj,T.bC,T.dH,jV,.inl ⟨rfl,_,SqL.of B.lst⟩,_,rfl,r,_,_,rfl,h',cG,r,a,ns,(bL op)[i],_,rfl,hR',fun H5 q k5 hR5 hq0 hq=>?_⟩
    have B5:=B.mono k5 hr0
    have hal:as.length=i:=by
     have:=B.at_.1
     rw[List.length_take] at this
     omega
    have nql:q≠la:=Ne.symm (aG B.lst hq0)
    have nqr:q≠r:=by
     obtain⟨_,_,z⟩:=hR'.ins
     exact Ne.symm (aG z hq0)
    have fq:H q=none:=hR'.free kp hq0
    refine⟨la,_,_,rfl,rfl,B5.lst,(by rw[List.length_map,hal];exact Nat.lt_of_lt_of_le (show i<2 by omega) (by decide)),as++[q],some (.int (0+(i:Int))),rfl,?_,?_,?_⟩
    ·intro c o e nb
     rw[aJ (aG e fl)]
     exact k5 c o (kp c o e nb) nb
    ·obtain⟨dx5,p5,g1,g2,g3,g4⟩:=hR5
     have hS:=hR
     obtain⟨_,_,m1,m2,_⟩:=hS
     exact⟨dx5,p5,by rw[aJ (fun e=>by rw[e] at hr0;exact hr0 fl)];exact g1,m2.later (kp.trans k5) m1 fl,g3,g4⟩
    ·refine⟨by rw[aJ (d8 B.obj B.lst (fun q=>nomatch q))];exact B5.obj,by rw[aJ B.ncl];exact B5.cond,by rw[aA,List.map_append];rfl,?_,B.fx,B.fc,B.fl,?_,B.ncl,?_,by rw[aJ (Ne.symm B.nle)];exact B5.cel,by rw[aJ (d8 B5.src B5.lst (fun q=>nomatch q))];exact B5.src,B.fe,B.fs,B.nce,B.nle,?_⟩
     ·rw[cI hx]
      exact bD.snoc (B5.at_.mono fun c hc o e=>by rw[aJ (B.nal c hc)];exact e) (by rw[aJ nql];exact hq)
     ·intro c hc
      rcases List.mem_append.mp hc with hc|hc
      ·exact B.fa c hc
      ·rw[List.mem_singleton.mp hc];exact fq
     ·intro c hc
      rcases List.mem_append.mp hc with hc|hc
      ·exact B.nal c hc
      ·rw[List.mem_singleton.mp hc];exact nql
     ·intro c hc
      rcases List.mem_append.mp hc with hc|hc
      ·exact B.nae c hc
      ·rw[List.mem_singleton.mp hc];exact Ne.symm (aG B.cel hq0)
   ·rintro σ H' ⟨as,v,rfl,kp,hR',B⟩
    have e:((bL op).length:Int).toNat=(bL op).length:=by omega
    rw[e,List.drop_length] at hR'
    rw[e,List.take_length] at B
    obtain⟨dx',p',h'⟩:=hR'.at
    refine⟨_,rfl,r,_,_,rfl,h',Kh,r,a,ns,[],rfl,hR',fun H5 hH5=>⟨_,rfl,cA ⟨_,rfl,?_⟩⟩⟩
    exact k H5 x ce so (kp.trans (aL.same hH5)) (hR'.same hH5) (B.raw.mono (Ac hH5)) (iM B.fe (hH5 _ _ B.cel)) (iM B.fs (hH5 _ _ B.src))
  have plain:xq op=[]→QB op= .non→yK op=0→_:=fun e1 e2 e3=>(after H3 k03 (by rw[e1] at hR3;exact hR3) (by rw[e3];exact B3))
  have number: ∀(n:Int),xq op=[n]→yK op=n→gG K au H3 r a ns (n::enc (bL op)):=fun n e1 e2=>by rw[e1] at hR3;exact hR3
  obtain⟨dx3,p3,h3⟩:=hR3.at
  have take: ∀(n:Int),xq op=[n]→yK op=n→sFld K (gW 5) (yc au "take" (gD K au) [] E0 (gW 2) lC) "number" {nx:=BR (Xj (Vi (gQ (tOp (Vr K) (tGT K [.int (1),.int (1),.int (1),.int (2),.int (0),.int (0),.int (1),.int (0)]) (gW 4)) lC)) (wk 6) (Vd (tBM K "list" JD (Ms K (gW 5) "lists") (gQ (yc au "take_list" (cQ K au) [] E0 (gW 2) lC) lC)))) (BR (SN (Xi (tB (yc au "all_taken" (nu K au) [] E0 (gW 2) lC))) (Dk (tC .non)) HS) (Dk (gW 5))) {nx:=fun _ H'=>Q .non H',rt:=Q},rt:=Q} [some (.int g),some (.int b),some (.ref r),some (.ref ca),some (.int (cT op)),some (.ref x),none] H3:=by
   intro n e1 e2
   have hRn:=number n e1 e2
   refine⟨_,rfl,r,_,_,rfl,h3,dN,r,a,ns,n,_,rfl,hRn,fun H4 k4 hR4=>?_⟩
   have B4:=B3.mono k4 hr0
   refine⟨_,rfl,x,_,dx,_,rfl,B4.obj,T.bC,T.dG,(by show 8<1000;decide),?_⟩
   rw[Z8]
   refine after _ ?_ ?_ ?_
   ·intro c o e nb
    rw[aJ (aG e fx)]
    exact k4 c o (k03 c o e nb) nb
   ·obtain⟨dx5,p5,g1,g2,g3,g4⟩:=hR4
    obtain⟨_,_,m1,m2,_⟩:=hR
    exact⟨dx5,p5,by rw[aJ (fun e=>by rw[e] at hr0;exact hr0 fx)];exact g1,m2.later (k03.trans k4) m1 fx,g3,g4⟩
   ·rw[e2]
    exact⟨aA,by rw[aJ (d8 B4.cond B4.obj (fun q=>nomatch q))];exact B4.cond,by rw[aJ (d8 B4.lst B4.obj (fun q=>nomatch q))];exact B4.lst,bD.nil,fx,fc,fl,fun a h=>(nomatch h),B3.ncl,fun a h=>(nomatch h),by rw[aJ (d8 B4.cel B4.obj (fun q=>nomatch q))];exact B4.cel,by rw[aJ (d8 B4.src B4.obj (fun q=>nomatch q))];exact B4.src,fe,fso,B3.nce,nle,fun a h=>(nomatch h)⟩
  intro ta hta
  refine⟨_,rfl,ta,_,_,QB op,rfl,rfl,hta H3,(by cases op<;>rfl),rfl,_,rfl,?_⟩
  cases op with
  |instead n b=>exact cB (take n rfl rfl)
  |twice n=>exact cB (take n rfl rfl)
  |stem n=>exact cB (take n rfl rfl)
  |behind b=>exact cA (plain rfl rfl rfl)
  |ahead b=>exact cA (plain rfl rfl rfl)
  |change b c=>exact cA (plain rfl rfl rfl)
  |refer l=>exact cA (plain rfl rfl rfl)
  |gap=>exact cA (plain rfl rfl rfl)
end
theorem _root_.L2.Same.ne{H H':Hp}(k:Same H H'){b:Addr}(h:H b≠Option.none):H' b≠Option.none:=fun e=>by
 cases q:H b with
 |none=>exact h q
 |some o=>rw[k b o q] at e;cases e
def QD(H:Hp)(l:Addr)(S S':Sh):Prop:=∀b,Out S l b→H b≠none→Out S' l b
theorem QD.refl{H:Hp}{l:Addr}{S:Sh}:QD H l S S:=fun _ h _=>h
def freeze(F H H':Hp)(ex:List Addr):Hp:=fun b=>match F b with
 |some o=>some o
 |none=>if b∈ex then none else newH H H' b
theorem oH{F H H':Hp}{ex:List Addr}:Same F (freeze F H H' ex):=fun b o e=>by
 unfold freeze
 rw[e]
theorem kI{F H H':Hp}{ex:List Addr}{b:Addr}(h:F b=none)(n:H b≠none):freeze F H H' ex b=none:=by
 unfold freeze
 rw[h]
 show(if b∈ex then none else newH H H' b)=none
 split
 ·rfl
 ·cases e:newH H H' b with
  |none=>rfl
  |some o=>exact absurd (dO e).1 n
theorem Uk{F H H':Hp}{ex:List Addr}{b:Addr}(h:F b=none)(m:b∈ex):freeze F H H' ex b=none:=by
 unfold freeze
 rw[h]
 exact if_pos m
theorem xu{F H H':Hp}{ex:List Addr}{b:Addr}{o:HO}(h:newH H H' b=some o)(hF:Same F H)(m:b∉ex):freeze F H H' ex b=some o:=by
 have n:F b=none:=by
  cases e:F b with
  |none=>rfl
  |some u=>
   have z:=(dO h).1
   rw[hF b u e] at z
   cases z
 unfold freeze
 rw[n]
 show(if b∈ex then none else newH H H' b)=some o
 rw[if_neg m]
 exact h
theorem xG{F H H' H'':Hp}{ex:List Addr}(h1:Same F H'')(h2: ∀b o,newH H H' b=some o→b∉ex→H'' b=some o):Same (freeze F H H' ex) H'':=fun b o e=>by
 unfold freeze at e
 cases q:F b with
 |some u=>rw[q] at e;have e:u=o:=Option.some.inj e;subst e;exact h1 b u q
 |none=>
  rw[q] at e
  have e:(if b∈ex then none else newH H H' b)=some o:=e
  split at e
  ·cases e
  ·exact h2 b o e (by assumption)
section
variable{cL cR cW:Addr}{H H1 H':Hp}{l r q:Addr}{s:Sx03.St}{t:Nat}{S:Sh}
theorem LAt.Ad(L:LAt cL cR cW H l s t S){b:Addr}(h:b∈S.own l):H b≠none:=fun e=>(L.out e).1 h
def Done(cL cR cW:Addr)(H:Hp)(l r:Addr)(s:Sx03.St)(t:Nat)(S:Sh)(x:Fs.jJ)(Q:VK):Prop:=
 ∀H' S' q,LAt cL cR cW H' l (Sx03.step s x).1 (t+1) S'→QD H l S S'→aL (r::S.own l) H H'→H q=none→H' q=some (.lst (iv (Fs.jZ (Sx03.step s x).2)))→Q (.ref q) H'
theorem Done.tell{x:Fs.jJ}{Q:VK}(D:Done cL cR cW H l r s t S x Q){a:Sx03.Ans}(e:Sx03.step s x=(s,a))(k:aL [r] H H1)(L:LAt cL cR cW H1 l s t S)(h0:H q=none)(hq:H1 q=some (.lst (iv (Fs.jZ a)))):Q (.ref q) H1:=by
 refine D H1 S q ?_ QD.refl (k.mono fun b hb=>?_) h0 ?_
 ·rw[e];exact L.later (Nat.le_succ t)
 ·rw[List.mem_singleton.mp hb];exact List.mem_cons_self
 ·rw[e];exact hq
theorem Done.refuse{x:Fs.jJ}{Q:VK}(D:Done cL cR cW H l r s t S x Q){z:Int}(e:Sx03.step s x=(s,Sx03.ok z))(k:aL [r] H H1)(hr:H1 r≠none)(L:LAt cL cR cW H1 l s t S)(hq:H1 q=none):Q (.ref q) (upd H1 q (.lst [.int z])):=
 D.tell e (k.trans (aL.same (Same.new hq))) (L.same (Same.new hq)) (rW k hq fun e=>hr (by rw[←e];exact hq)) aA
theorem LAt.Ul(L:LAt cL cR cW H l s t S){c:Option Nat}(k:aL [S.pa] H H')(h:H' S.pa=some (.lst (iv ((s.classes++[c]).map fO)))):LAt cL cR cW H' l {s with classes:=s.classes++[c]} t S:=by
 have nd:=L.nd
 have own: ∀{b:Addr} {o:HO},b∈S.own l→b≠S.pa→H b=some o→H' b=some o:=fun{b o} _ n e=>k b o e (by simpa using n)
 have n1:l≠S.pa:=d8 L.lang L.par (fun q=>nomatch q)
 have nd':(l::S.pa::S.ra::S.wa::S.das).Nodup:=nd
 simp only[List.nodup_cons,List.mem_cons,not_or] at nd'
 obtain⟨_,⟨m1,m2,m3⟩,_⟩:=nd'
 refine⟨k _ _ L.lang (by simpa using n1),fun b o e=>k b o (L.sub b o e) fun q=>?_,L.sizes,h,k _ _ L.rules (by simpa using Ne.symm m1),L.rlen,L.rat,k _ _ L.words (by simpa using Ne.symm m2),L.tG,L.wY,fun j a d w h1 h2 h3=>?_,L.nd,L.nf⟩
 ·rw[List.mem_singleton.mp q,L.nf _ (by simp[Sh.own])] at e
  cases e
 ·obtain⟨dx,sa,as,kvs,q1,q2,q3,q4,q5,q6⟩:=(L.wat j a d w h1 h2 h3).ex
  exact⟨dx,sa,as,kvs,q1,q2,q3,k _ _ q4 (by simpa using fun e:d=S.pa=>m3 (by rw[←e];exact List.mem_of_getElem? h2)),q5,q6⟩
theorem LAt.N7(L:LAt cL cR cW H l s t S){rs:List Sx03.Rule}{ras:List Addr}{F':Hp}(k:aL [S.ra] H H')(h:H' S.ra=some (.lst (ras.map V.ref)))(hF:Same S.F F')(hS:Same F' H')(hn: ∀b∈S.own l,F' b=none)
  (hl:ras.length=rs.length) (hA: ∀(j:Nat) a r,ras[j]?=some a→rs[j]?=some r→Fp cR F' s.dims a r):LAt cL cR cW H' l {s with rules:=rs} t {S with ras:=ras,F:=F'}:=by
 have n1:l≠S.ra:=d8 L.lang L.rules (fun q=>nomatch q)
 have nd':(l::S.pa::S.ra::S.wa::S.das).Nodup:=L.nd
 simp only[List.nodup_cons,List.mem_cons,not_or] at nd'
 obtain⟨_,⟨m1,_,_⟩,⟨m2,m3⟩,_⟩:=nd'
 refine⟨k _ _ L.lang (by simpa using n1),hS,hF _ _ L.sizes,k _ _ L.par (by simpa using m1),h,hl,hA,k _ _ L.words (by simpa using Ne.symm m2),L.tG,L.wY,fun j a d w h1 h2 h3=>?_,L.nd,hn⟩
 obtain⟨dx,sa,as,kvs,q1,q2,q3,q4,q5,q6⟩:=(L.wat j a d w h1 h2 h3).ex
 exact⟨dx,sa,as,kvs,hF _ _ q1,hF _ _ q2,q3.mono fun a _ o e=>hF a o e,k _ _ q4 (by simpa using fun e:d=S.ra=>m3 (by rw[←e];exact List.mem_of_getElem? h2)),fun c hc=>(q5 c hc).mono hF,q6⟩
end
section
variable{P:Program}{w:World}{K:PySem.W.Frag}{mg:Str→Option Value}{base:Heap}{au aD aj aH aK:Addr}{f:Addr}{fd:FuncData}
structure nJ(K:PySem.W.Frag)(cRd cL cR cW:Addr)(H:Hp)(l r:Addr)(s:Sx03.St)(t:Nat)(S:Sh)(told:List Int):Prop where
 lat:LAt cL cR cW H l s t S
 wf:Fs.Wf s
 few:t≤300
 rd: ∃a ns,gG K cRd H r a ns told
 out:Out S l r
def CT(K:PySem.W.Frag)(cRd cL cR cW:Addr):Sp:=fun vs H Q _=>∃(l r:Addr) (s:Sx03.St) (t:Nat) (S:Sh) (p:Int),vs=[.ref l,.ref r]∧nJ K cRd cL cR cW H l r s t S [p]∧s.dims≠[]∧Done cL cR cW H l r s t S (.group p) Q
theorem QF{s:Sx03.St}(h:s.dims≠[])(p:Int):Sx03.step s (.group p)=if p< -1∨(s.classes.length:Int)≤p then(s,Sx03.ok (-2)) else if 16≤s.classes.length then(s,Sx03.ok (-5)) else({s with classes:=s.classes++[if p<0 then none else some p.toNat]},Sx03.ok (s.classes.length:Nat)):=by
 show(if s.dims=[] then _ else _)=_
 rw[if_neg h]
 rfl
theorem Hi(F:Fun K "call_group" "call_group" rF f fd)(T:Txt K mg aD aK aH au aj)(aN:GM P w K mg base au "take" 2 ["self"] (gD K au))(bN:GM P w K mg base aj "has_group" 1 ["self","group"] (nH aj aD aH))(rZ:GF P w K mg base "keep" 1 ["kept","thing","most"] (z9)):bJ P w K mg base CX0 3 f fd ["language","told"] (CT K au aj aD aH):=by
 refine F.ok wC (fun vs H Q E h=>?_) (fun cdv A outer s H vs Q E hr h=>?_)
 ·obtain⟨l,r,s,t,S,p,rfl,_⟩:=h
  rfl
 ·obtain⟨l,r,s0,t,S,p,rfl,I,hd,D⟩:=h
  obtain⟨a,ns,hR⟩:=I.rd
  refine⟨_,(aB (aX (i:=2) wC.nd rfl (by first|exact Or.inl rfl|exact Or.inr rfl) (bf (pv 1) aN (hr.mono (by decide))))
   (aB (bI (wK (aY Dq (pv 2) (bW T.oG) (bx _)) (qL (gM (fM (jc (pv 0) bN (hr.mono (by decide)) (ak (pv 2) aC)))))).pt (aF (aP (bG (ak (bW T.fK) aC)))) aZ)
   (aF (aP (aQ rZ (hr.mono (by decide)) (ak (aW (pv 0) rfl) (ak (pv 2) (ak (bW T.pJ) aC)))))))),?_⟩
  obtain⟨dx0,p0,h0⟩:=hR.at
  refine⟨_,rfl,r,_,_,rfl,h0,dN,r,a,ns,p,[],rfl,hR,fun H1 k1 hR1=>?_⟩
  have L1:=I.lat.keep k1 (fun b hb=>by rw[List.mem_singleton.mp hb];exact I.out)
  have hr1:H1 r≠none:=by
   obtain⟨_,_,z⟩:=hR1.ins
   rw[z];exact fun q=>nomatch q
  have st:=QF hd p
  have kept: ¬(p< -1∨(s0.classes.length:Int)≤p)→∀H2,Same H1 H2→Dk (HX z9 [] E0 (gQ (Ms K (gW 0) "parents") (gQ (gW 2) (gQ (tC (.int 16)) lC)))) {nx:=fun _ H'=>Q .non H',rt:=Q} [some (.ref l),some (.ref r),some (.int p)] H2:=by
   intro hp H2 hH
   have L2:=L1.same hH
   rw[if_neg hp] at st
   refine⟨_,rfl,l,_,_,_,_,rfl,L2.lang,T.aR,T.dD,nA,_,rfl,S.pa,_,_,16,rfl,L2.par,by decide,fun hm H3 q hH3 hq0 hq=>?_,fun hm H3 q k3 hp3 hq0 hq=>?_⟩
   ·rw[List.length_map,List.length_map] at hm
    rw[if_pos hm] at st
    refine D.tell st ((k1.trans (aL.same hH)).trans (aL.same hH3)) (L2.same hH3) ?_ hq
    exact(hR1.same hH).free (k1.trans (aL.same hH)) hq0
   ·rw[List.length_map,List.length_map] at hm hq
    rw[if_neg (by omega)] at st
    have e:iv (s0.classes.map fO)++[V.int p]=iv ((s0.classes++[if p<0 then none else some p.toNat]).map fO):=by
     show(s0.classes.map fO).map V.int++[V.int p]=((s0.classes++[if p<0 then none else some p.toNat]).map fO).map V.int
     rw[List.map_append,List.map_append]
     show _=_++[V.int (fO (if p<0 then none else some p.toNat))]
     congr 2
     split
     ·show V.int p=V.int (-1);congr 1;omega
     ·show V.int p=V.int (p.toNat:Int);congr 1;omega
    rw[e] at hp3
    have L3:=L2.Ul k3 hp3
    refine D H3 S q (by rw[st];exact L3.later (Nat.le_succ t)) QD.refl ?_ ((hR1.same hH).free (k1.trans (aL.same hH)) hq0) (by rw[st];exact hq)
    exact((k1.trans (aL.same hH)).mono (l':=r::S.own l) (by simp)).trans (k3.mono (by simp[Sh.own]))
  refine⟨_,rfl,rfl,_,rfl,gA (fun c=>?_) (fun c=>?_)⟩
  ·have c:p≠ -1:=fun e=>by rw[e] at c;simp at c
   refine⟨_,rfl,l,_,_,rfl,L1.lang,rR,_,rfl,l,s0,t,S,p,rfl,L1,fun H2 hH=>⟨_,rfl,?_⟩⟩
   by_cases hg:0≤p∧p<(s0.classes.length:Int)
   ·rw[decide_eq_true hg]
    exact cA (kept (by omega) H2 hH)
   ·rw[decide_eq_false hg]
    refine cB ⟨by show 1≤sizeLine;decide,fun q hq=>?_⟩
    rw[if_pos (by omega)] at st
    exact D.refuse st (k1.trans (aL.same hH)) (hH.ne hr1) (L1.same hH) hq
  ·have c:p= -1:=by
    by_cases q:p= -1
    ·exact q
    ·exact absurd (by simp[q]) c
   refine cA (kept (by omega) H1 (Same.refl H1))
end
structure Acc(H0 H':Hp)(D:Addr)(as:List Addr)(xss:List (List Int)):Prop where
 same:Same H0 H'
 at_:H' D=some (.lst (as.map V.ref))
 rows:bD H' as xss
 ne: ∀a∈as,a≠D
 fr:H0 D=none
 fa: ∀a∈as,H0 a=none
theorem Acc.new{H0:Hp}{D:Addr}(h:H0 D=none):Acc H0 (upd H0 D (.lst [])) D [] []:=⟨Same.new h,aA,bD.nil,fun a h=>(nomatch h),h,fun a h=>(nomatch h)⟩
theorem Acc.grow{H0 H' H'':Hp}{D:Addr}{as:List Addr}{xss:List (List Int)}(h:Acc H0 H' D as xss)(k:Same H' H''):Acc H0 H'' D as xss:=
 ⟨h.same.trans k,k _ _ h.at_,h.rows.mono fun a _ o e=>k a o e,h.ne,h.fr,h.fa⟩
theorem bD.app{H:Hp}{as bs:List Addr}{xss yss:List (List Int)}(h:bD H as xss)(h':bD H bs yss):bD H (as++bs) (xss++yss):=by
 refine⟨by rw[List.length_append,List.length_append,h.1,h'.1],fun j b ys hb hy=>?_⟩
 by_cases q:j<as.length
 ·rw[List.getElem?_append_left q] at hb
  rw[List.getElem?_append_left (by rw[←h.1];exact q)] at hy
  exact h.2 j b ys hb hy
 ·rw[List.getElem?_append_right (by omega)] at hb
  rw[List.getElem?_append_right (by rw[←h.1];omega),←h.1] at hy
  exact h'.2 _ b ys hb hy
theorem Acc.app{H0 H':Hp}{D:Addr}{as bs:List Addr}{xss yss:List (List Int)}(h:Acc H0 H' D as xss)(hb:bD H' bs yss)(hn: ∀b∈bs,b≠D)(hf: ∀b∈bs,H0 b=none):Acc H0 (upd H' D (.lst ((as++bs).map V.ref))) D (as++bs) (xss++yss):=by
 have mem: ∀a∈as++bs,a≠D:=fun a ha=>(List.mem_append.mp ha).elim (h.ne a) (hn a)
 refine⟨fun b o e=>?_,aA,(h.rows.app hb).mono fun a ha o e=>by rw[aJ (mem a ha)];exact e,mem,h.fr,fun a ha=>(List.mem_append.mp ha).elim (h.fa a) (hf a)⟩
 rw[aJ (aG e h.fr)]
 exact h.same b o e
theorem Acc.push{H0 H':Hp}{D:Addr}{as:List Addr}{xss:List (List Int)}(h:Acc H0 H' D as xss){q:Addr}{xs:List Int}(hq:H' q=some (.lst (iv xs)))(hn:q≠D)(hf:H0 q=none):Acc H0 (upd H' D (.lst (as.map V.ref++[V.ref q]))) D (as++[q]) (xss++[xs]):=by
 have e:as.map V.ref++[V.ref q]=(as++[q]).map V.ref:=by rw[List.map_append];rfl
 rw[e]
 exact h.app (bD.snoc bD.nil hq) (fun b hb=>by rw[List.mem_singleton.mp hb];exact hn) fun b hb=>by rw[List.mem_singleton.mp hb];exact hf
theorem Acc.len{H0 H':Hp}{D:Addr}{as:List Addr}{xss:List (List Int)}(h:Acc H0 H' D as xss):(as.map V.ref).length=xss.length:=by rw[List.length_map];exact h.rows.1
theorem small{n:Nat}(h:n≤10000):n<sizeLine:=Nat.lt_of_le_of_lt h (by decide)
theorem gO{n:Nat}(h:n≤10000):n≤sizeLine:=Nat.le_of_lt (small h)
theorem Y4(cs:List (List Nat))(n:Nat):(Fs.grow cs n).map bh=cs.flatMap fun c=>(List.range n).map fun(v:Nat)=>bh c++[(v:Int)]:=by
 unfold Fs.grow
 rw[List.map_flatMap]
 refine congrArg (fun g=>List.flatMap g cs) (funext fun c=>?_)
 rw[List.map_map]
 refine List.map_congr_left fun v _=>?_
 show bh (c++[v])=_
 unfold bh
 rw[List.map_append]
 rfl
section
variable{P:Program}{w:World}{K:PySem.W.Frag}{mg:Str→Option Value}{base:Heap}{au aD aj aH aK:Addr}{f:Addr}{fd:FuncData}
def vd(K:PySem.W.Frag):Sp:=fun vs H Q _=>∃a ds,vs=[.ref a]∧SqL K H a (nv ds)∧(∀n∈ds,n≤8)∧ds.length≤4∧∀H' q as,Same H H'→H q=none→(∀a∈as,H a=none)→H' q=some (.lst (as.map V.ref))→bD H' as ((Sx03.cells ds).map bh)→Q (.ref q) H'
theorem Hj(F:Fun K "list_cells" "list_cells" qT f fd)(T:Txt K mg aD aK aH au aj):bJ P w K mg base CX0 1 f fd ["sizes"] (vd K):=by
 refine F.ok d9 (fun vs H Q E h=>?_) (fun cdv A outer s H vs Q E hr h=>?_)
 ·obtain⟨a,ns,rfl,_⟩:=h
  rfl
 ·obtain⟨a,ds,rfl,hS,hb,hd4,k⟩:=h
  have big: ∀i,i≤4→((ds.take i).foldl Fs.grow [[]]).length≤4096:=fun i hi=>Nat.le_trans (Fs.X7 ds i hb) (Nat.le_trans (Nat.pow_le_pow_right (by decide) hi) (by decide))
  have Yl: ∀i c,c∈(ds.take i).foldl Fs.grow [[]]→c.length≤4:=fun i c hc=>by
   rw[Fs.wO] at hc
   have:=(Fs.j5.mp (Fs.gJ.mp hc)).1
   rw[this,List.length_take]
   omega
  refine⟨_,(aB (aX (i:=1) d9.nd rfl (by first|exact Or.inl rfl|exact Or.inr rfl) (bG (ak (bG aC) aC)))
   (aB (dU PassesOwn.never rfl (eV (pv 0)) (bF (i:=2) d9.nd rfl (by first|exact Or.inl rfl|exact Or.inr rfl))
   (aB (aX (i:=3) d9.nd rfl (by first|exact Or.inl rfl|exact Or.inr rfl) (bG aC))
   (aB (dU PassesOwn.never rfl (eV (pv 1)) (bF (i:=4) d9.nd rfl (by first|exact Or.inl rfl|exact Or.inr rfl))
   (aF (dj (jw PySem.F.plainAttrs_list PySem.F.slot_list_extend PySem.F.type_list_extend pZ (pv 3) (ak (Bu (own:=[("value",5)]) rfl d9.nd (gH (by rfl) T.iI (ak (pv 2) aC)) (fU (by rfl)) (fun _ _ _ _ _=>(bF (i:=5) d9.nd rfl (by first|exact Or.inl rfl|exact Or.inr rfl))) (fun _ _ _ _ _=>jG) (fun _ _ _ _ _=>(dF jF (pv 4) (bG (ak (pv 5) aC))))) aC)))))
   (aF (aX (i:=1) d9.nd rfl (by first|exact Or.inl rfl|exact Or.inr rfl) (pv 3))))))
   (aF (aP (pv 1))))),?_⟩
  refine⟨Nat.zero_le _,fun e0 he0=>⟨by show 1≤sizeLine;decide,fun c0 hc0=>?_⟩⟩
  have s0:Same H (upd (upd H e0 (.lst [])) c0 (.lst [.ref e0])):=(Same.new he0).trans (Same.new hc0)
  have ne0:e0≠c0:=by
   obtain⟨n,_⟩:=bw hc0
   exact Ne.symm n
  refine⟨_,rfl,a,rfl,⟨_,s0.seq hS⟩,DR (K:=K) (a:=a) (ns:=ds.map Int.ofNat) (fun i σ H'=>∃ca as v2 v3 v4 v5,σ=[some (.ref a),some (.ref ca),v2,v3,v4,v5]∧H ca=none∧(∀a∈as,H a=none)∧H' ca=some (.lst (as.map V.ref))∧bD H' as (((ds.take i).foldl Fs.grow [[]]).map bh)) (s0.seq hS) ?_ ?_ ?_⟩
  ·refine⟨c0,[e0],none,none,none,none,rfl,(bw hc0).2,fun b hb=>by rw[List.mem_singleton.mp hb];exact he0,aA,bD.snoc bD.nil ?_⟩
   rw[aJ ne0,aA]
   rfl
  ·rintro i z σ H1 hz hH ⟨ca,as,v2,v3,v4,v5,rfl,hcf,hcfa,hca,hA⟩
   obtain⟨n,hn,rfl⟩:=bO hz
   have hn8:=hb n (List.mem_of_getElem? hn)
   have hi4:i<4:=by
    have:=(List.getElem?_eq_some_iff.mp hn).1
    omega
   have bg:=big (i+1) (by omega)
   have hcs:as.length=((ds.take i).foldl Fs.grow [[]]).length:=by rw[hA.1,List.length_map]
   refine⟨Nat.zero_le _,fun D hD=>?_⟩
   refine⟨_,rfl,ca,rfl,⟨_,SqL.of (Same.new hD _ _ hca)⟩,gY (K:=K) (a:=ca) (xs:=as.map V.ref) (fun j σ H'=>∃bs v4 v5,σ=[some (.ref a),some (.ref ca),some (.int (n:Nat)),some (.ref D),v4,v5]∧Acc H1 H' D bs ((Fs.grow (((ds.take i).foldl Fs.grow [[]]).take j) n).map bh)) ⟨[],v4,v5,rfl,Acc.new hD⟩ (fun j σ H' _ ⟨_,_,_,_,A⟩=>SqL.of (A.same _ _ hca)) ?_ ?_⟩
   ·rintro j x σ H2 hx ⟨bs,v4,v5,rfl,A⟩
    obtain⟨va,hva,rfl⟩:=bO hx
    have hj:j<((ds.take i).foldl Fs.grow [[]]).length:=by
     have:=(List.getElem?_eq_some_iff.mp hva).1
     omega
    have hc:((ds.take i).foldl Fs.grow [[]])[j]?=some ((ds.take i).foldl Fs.grow [[]])[j]:=List.getElem?_eq_getElem hj
    generalize hcc:((ds.take i).foldl Fs.grow [[]])[j]=c at hc
    have hcl:=Yl i c (List.mem_of_getElem? hc)
    have hv:H1 va=some (.lst (iv (bh c))):=hA.2 j va _ hva (by rw[List.getElem?_map,hc];rfl)
    refine⟨_,rfl,.inl ⟨rfl,_,SqL.of A.at_⟩,?_⟩
    refine⟨_,rfl,(n:Int),rfl,by omega,by omega,fun E hE=>?_⟩
    refine p8 (lo:=0) (n:=((n:Int)).toNat) (fun m H'=>∃es,Acc H2 H' E es ((List.range m).map fun(v:Nat)=>bh c++[(v:Int)])) ⟨[],Acc.new hE⟩ ?_ ?_
    ·rintro m H3 hm ⟨es,B⟩
     refine⟨rfl,jH ?_⟩
     have hv3:=B.same _ _ (A.same _ _ hv)
     refine⟨_,rfl,_,rfl,(by show 1≤sizeLine;decide),fun p hp=>?_⟩
     refine⟨va,p,_,_,rfl,rfl,Same.new hp _ _ hv3,aA,?_,fun q hq=>?_⟩
     ·rw[List.length_map]
      refine gO ?_
      show(bh c).length+1≤_
      rw[bU]
      omega
     ·have s34:Same H3 (upd (upd H3 p (.lst [.int (0+(m:Int))])) q (.lst (iv (bh c)++[.int (0+(m:Int))]))):=(Same.new hp).trans (Same.new hq)
      have B':=B.grow s34
      refine⟨_,B'.at_,by rw[B'.len,List.length_map,List.length_range];exact small (by omega),es++[q],?_⟩
      rw[List.range_succ,List.map_append]
      refine B'.push ?_ (fun e=>by rw[e] at hq;obtain⟨_,hq0⟩:=bw hq;rw[B.at_] at hq0;cases hq0) (B.same.free (bw hq).2)
      rw[aA]
      show some (HO.lst (iv (bh c)++[.int (0+(m:Int))]))=some (.lst ((bh c++[(m:Int)]).map V.int))
      rw[List.map_append,Int.zero_add]
      rfl
    ·rintro H3 ⟨es,B⟩
     rw[show((n:Int)).toNat=n by omega] at B
     have A':=A.grow B.same
     have hl2:(Fs.grow (((ds.take i).foldl Fs.grow [[]]).take (j+1)) n).length≤4096:=by
      rw[Fs.Ny]
      refine Nat.le_trans (Nat.mul_le_mul_right _ (show(((ds.take i).foldl Fs.grow [[]]).take (j+1)).length≤((ds.take i).foldl Fs.grow [[]]).length by rw[List.length_take];omega)) ?_
      rw[←Fs.Ny]
      have e:Fs.grow ((ds.take i).foldl Fs.grow [[]]) n=(ds.take (i+1)).foldl Fs.grow [[]]:=by rw[cI hn,List.foldl_append];rfl
      rw[e]
      exact bg
     have eg:(Fs.grow (((ds.take i).foldl Fs.grow [[]]).take (j+1)) n).map bh=(Fs.grow (((ds.take i).foldl Fs.grow [[]]).take j) n).map bh++((List.range n).map fun(v:Nat)=>bh c++[(v:Int)]):=by
      rw[Y4,Y4,cI hc,List.flatMap_append]
      simp
     have hll:=congrArg List.length eg
     rw[List.length_map,List.length_append,List.length_map] at hll
     refine⟨D,E,_,_,rfl,rfl,A'.at_,B.at_,?_,bs++es,_,_,rfl,?_⟩
     ·rw[A'.len,B.len,List.length_map]
      exact gO (by omega)
     ·rw[eg,←List.map_append]
      exact A'.app B.rows (fun b hb' e=>by have z:=B.fa b hb';rw[e,A.at_] at z;cases z) fun b hb'=>A.same.free (B.fa b hb')
   ·rintro σ H2 ⟨bs,v4,v5,rfl,A⟩
    rw[List.length_map,hcs,List.take_length] at A
    refine⟨_,rfl,hH.trans A.same,D,bs,_,_,_,_,rfl,(s0.trans hH).free hD,fun b hb'=>(s0.trans hH).free (A.fa b hb'),A.at_,?_⟩
    rw[cI hn,List.foldl_append]
    exact A.rows
  ·rintro σ H' hH ⟨ca,as,v2,v3,v4,v5,rfl,hcf,hcfa,hca,hA⟩
   rw[List.length_map,List.take_length,Fs.wO] at hA
   exact⟨_,rfl,k H' ca as (s0.trans hH) hcf hcfa hca hA⟩
def KC(K:PySem.W.Frag):Sp:=fun vs H Q _=>∃(a b:Addr) (c:Sx03.Cell) (l:Sx03.Cond),vs=[.ref a,.ref b]∧SqL K H a (nv c)∧SqL K H b (iv (dJ l))∧∀H',Same H H'→Q (.bl (Sx03.meets l c)) H'
theorem Jf{l:Sx03.Cond}{c:Sx03.Cell}:Sx03.meets l c=true↔∀(j:Nat) o v,l[j]?=some o→c[j]?=some v→o=none∨o=some v:=by
 unfold Sx03.meets
 rw[List.all_eq_true]
 constructor
 ·intro h j o v ho hv
  have hm:(o,v)∈l.zip c:=List.mem_of_getElem? (i:=j) (by rw[List.getElem?_zip_eq_some];exact⟨ho,hv⟩)
  simpa using h _ hm
 ·intro h x hx
  obtain⟨j,hj⟩:=List.mem_iff_getElem?.mp hx
  rw[List.getElem?_zip_eq_some] at hj
  simpa using h j _ _ hj.1 hj.2
theorem N8{o:Option Nat}:fO o= -1↔o=none:=by
 cases o with
 |none=>simp[fO]
 |some v=>show((v:Int)= -1)↔_;simp
theorem WD{o:Option Nat}{v:Nat}:fO o=(v:Int)↔o=some v:=by
 cases o with
 |none=>show((-1:Int)=v)↔_;simp
 |some u=>show((u:Int)=v)↔_;simp;omega
theorem WK(F:Fun K "meets" "meets" JZ f fd)(T:Txt K mg aD aK aH au aj):bJ P w K mg base CX0 1 f fd ["values","condition"] (KC K):=by
 refine F.ok Eo (fun vs H Q E h=>?_) (fun cdv A outer s H vs Q E hr h=>?_)
 ·obtain⟨a,b,c,l,rfl,_⟩:=h
  rfl
 ·obtain⟨a,b,c,l,rfl,hA,hB,k⟩:=h
  refine⟨_,(aB (dU PassesOwn.never rfl (JK (by rfl) T.RX (ak (pv 0) (ak (pv 1) aC))) (qN rfl (dz (bF (i:=2) Eo.nd rfl (by first|exact Or.inl rfl|exact Or.inr rfl)) (dz (bF (i:=3) Eo.nd rfl (by first|exact Or.inl rfl|exact Or.inr rfl)) mC)))
   (aF (bI (wK (aY Dq (pv 3) (bW T.Ez) (bx _)) (qL (aY Dq (pv 3) (pv 2) (bx _)))).pt (aF (aP jD)) aZ)))
   (aF (aP jD))),?_⟩
  refine⟨_,rfl,_,rfl,a,b,_,_,rfl,hA,hB,DW (K:=K) (xs:=c.map Int.ofNat) (ys:=dJ l) (fun i σ H'=>∃u v,σ=[some (.ref a),some (.ref b),u,v]∧∀(j:Nat) o x,j<i→l[j]?=some o→c[j]?=some x→o=none∨o=some x) hA hB ⟨none,none,rfl,fun j o x h=>absurd h (Nat.not_lt_zero j)⟩ ?_ ?_⟩
  ·rintro i x y Tp σ H' hx hy hT hH H'' hn rfl ⟨u,v,rfl,hv⟩
   obtain⟨n,hn',rfl⟩:=bO hx
   obtain⟨o,ho,rfl⟩:=bO hy
   refine⟨Tp,_,rfl,SqT.of hT,rfl,_,_,rfl,_,_,rfl,rfl,?_⟩
   have yes:(o=none∨o=some n)→Same H (upd H'' Tp (.tup [.int (Int.ofNat n),.int (fO o)]))∧∃u v,[some (V.ref a),some (V.ref b),some (V.int (Int.ofNat n)),some (V.int (fO o))]=[some (V.ref a),some (V.ref b),u,v]∧∀(j:Nat) o x,j<i+1→l[j]?=some o→c[j]?=some x→o=none∨o=some x:=fun q=>by
    refine⟨hH,_,_,rfl,fun j o' x' hj h1 h2=>?_⟩
    by_cases e:j=i
    ·subst e
     rw[ho] at h1
     rw[hn'] at h2
     cases h1
     cases h2
     exact q
    ·exact hv j o' x' (by omega) h1 h2
   refine⟨_,rfl,rfl,_,rfl,gA (fun d=>?_) (fun d=>?_)⟩
   ·have d: ¬o=none:=fun e=>by rw[e] at d;simp[fO] at d
    refine⟨_,rfl,_,rfl,rfl,_,rfl,gA (fun d'=>?_) (fun d'=>?_)⟩
    ·have d': ¬o=some n:=fun e=>by rw[e] at d';simp[fO] at d'
     have e:Sx03.meets l c=false:=by
      rw[←Bool.not_eq_true,Jf]
      intro z
      rcases z i o n ho hn' with q|q
      ·exact d q
      ·exact d' q
     rw[e] at k
     exact k _ hH
    ·have d':V.int (fO o)=V.int (Int.ofNat n):=by
      by_cases q:V.int (fO o)=V.int (Int.ofNat n)
      ·exact q
      ·exact absurd (by rw[decide_eq_false q];rfl) d'
     injection d' with d'
     exact yes (.inr (WD.mp d'))
   ·have d:o=none:=by
     by_cases q:o=none
     ·exact q
     ·refine absurd ?_ d
      rw[decide_eq_false (show¬V.int (fO o)=V.int (-1) from fun e=>q (N8.mp (by injection e)))]
      rfl
    exact cA (yes (.inl d))
  ·rintro σ H' hH ⟨u,v,rfl,hv⟩
   have e:Sx03.meets l c=true:=Jf.mpr fun j o x ho hx=>hv j o x (by
    have h1:=(List.getElem?_eq_some_iff.mp ho).1
    have h2:=(List.getElem?_eq_some_iff.mp hx).1
    unfold dJ
    rw[List.length_map,List.length_map]
    omega) ho hx
   rw[e] at k
   exact k H' hH
def KD(K:PySem.W.Frag):Sp:=fun vs H Q _=>∃(a:Addr) (l:Sx03.Cond),vs=[.ref a]∧SqL K H a (iv (dJ l))∧∀H',Same H H'→Q (.int (Sx03.fixed l:Nat)) H'
theorem Oa(l:Sx03.Cond):(Sx03.fixed l:Int)=((dJ l).length:Int) - ((dJ l).count (-1):Nat):=by
 unfold Sx03.fixed dJ
 induction l with
 |nil=>rfl
 |cons o l ih=>
  rw[List.filter_cons,List.map_cons,List.count_cons,List.length_cons]
  cases o with
  |none=>
   rw[if_neg (by simp),ih]
   show _=((l.map fO).length+1:Nat) - (((l.map fO).count (-1)+if((-1:Int)== -1)=true then 1 else 0:Nat):Int)
   rw[if_pos (by rfl)]
   omega
  |some v=>
   rw[if_pos (by rfl),List.length_cons]
   show _=((l.map fO).length+1:Nat) - (((l.map fO).count (-1)+if((v:Int)== -1)=true then 1 else 0:Nat):Int)
   rw[if_neg (by simp)]
   omega
theorem Fx(F:Fun K "count_fixed" "count_fixed" oW f fd)(T:Txt K mg aD aK aH au aj):bJ P w K mg base CX0 1 f fd ["condition"] (KD K):=by
 refine F.ok Ep (fun vs H Q E h=>?_) (fun cdv A outer s H vs Q E hr h=>?_)
 ·obtain⟨a,l,rfl,_⟩:=h
  rfl
 ·obtain⟨a,l,rfl,hA,k⟩:=h
  refine⟨_,(aF (aP (dF lK (bA aV (by rfl) T.cV PySem.boot_len (ak (pv 0) aC)) (jw PySem.F.plainAttrs_list PySem.F.slot_list_count PySem.F.type_list_count Ue (pv 0) (ak (bW T.Ez) aC))))),?_⟩
  refine⟨_,rfl,a,_,rfl,.inl hA,_,rfl,.inl ⟨rfl,_,hA⟩,a,dJ l,-1,rfl,rfl,hA,_,_,rfl,rfl,?_⟩
  have e:=Oa l
  show Q (.int ((((iv (dJ l)).length:Nat):Int) - (((dJ l).count (-1):Nat):Int))) H
  rw[List.length_map,←e]
  exact k H (Same.refl H)
def WL(K:PySem.W.Frag):Sp:=fun vs H Q _=>∃(a b:Addr) (c:Sx03.Cell) (l:Sx03.Cond),vs=[.ref a,.ref b]∧SqL K H a (nv c)∧SqL K H b (iv (dJ l))∧c.length=l.length∧c.length≤4∧∀H' q,Same H H'→H q=none→H' q=some (.lst (nv (Sx03.moved l c)))→Q (.ref q) H'
theorem Hl(F:Fun K "put_values" "put_values" qU f fd)(T:Txt K mg aD aK aH au aj):bJ P w K mg base CX0 1 f fd ["values","told"] (WL K):=by
 refine F.ok oX (fun vs H Q E h=>?_) (fun cdv A outer s H vs Q E hr h=>?_)
 ·obtain⟨a,b,c,l,rfl,_⟩:=h
  rfl
 ·obtain⟨a,b,c,l,rfl,hA,hB,hl,h4,k⟩:=h
  refine⟨_,(aF (aP (Bu (own:=[("own",2),("other",3)]) rfl oX.nd (JK (by rfl) T.RX (ak (pv 0) (ak (pv 1) aC))) (fU (by rfl)) (fun _ _ _ _ _=>(En (K:=K) (i:=2) (j:=3) rfl rfl oX.nd rfl rfl rfl rfl)) (fun _ _ _ _ _=>jG) (fun _ _ _ _ _=>(Vc (aY nU (pv 3) (bW T.Ez) (bx _)) (pv 2) (pv 3)))))),?_⟩
  have ml:(Sx03.moved l c).length=c.length:=by unfold Sx03.moved;rw[List.length_map,List.length_zip];omega
  refine⟨_,rfl,_,rfl,a,b,_,_,rfl,hA,hB,fun D hD=>Z2 (K:=K) (fun i H'=>Same H H'∧H' D=some (.lst (nv ((Sx03.moved l c).take i)))) ⟨Same.new hD,aA⟩ (fun i H' p=>⟨p.1.seq hA,p.1.seq hB⟩) ?_ ?_⟩
  ·rintro i x y Tp H' hx hy hT ⟨hH,hD'⟩
   obtain⟨z,hz,rfl⟩:=bO hx
   obtain⟨n,hn,rfl⟩:=bO hz
   obtain⟨z2,hz2,rfl⟩:=bO hy
   obtain⟨o,ho,rfl⟩:=bO hz2
   have nDT:D≠Tp:=aG hD' hT
   have hm:(Sx03.moved l c)[i]?=some (o.getD n):=by
    unfold Sx03.moved
    rw[List.getElem?_map,show(l.zip c)[i]?=some (o,n) by rw[List.getElem?_zip_eq_some];exact⟨ho,hn⟩]
    rfl
   have hi:i<c.length:=(List.getElem?_eq_some_iff.mp hn).1
   refine⟨Tp,_,rfl,SqT.of aA,rfl,_,_,rfl,_,_,rfl,rfl,rfl,jH ?_⟩
   have fin: ∀u:Int,u=((o.getD n:Nat):Int)→∃acc,upd H' Tp (.tup [.int (Int.ofNat n),.int (fO o)]) D=some (.lst acc)∧acc.length<sizeLine∧Same H (upd (upd H' Tp (.tup [.int (Int.ofNat n),.int (fO o)])) D (.lst (acc++[V.int u])))∧upd (upd H' Tp (.tup [.int (Int.ofNat n),.int (fO o)])) D (.lst (acc++[V.int u])) D=some (.lst (nv ((Sx03.moved l c).take (i+1)))):=fun u hu=>by
    refine⟨nv ((Sx03.moved l c).take i),by rw[aJ nDT];exact hD',?_,fun d o' e=>?_,?_⟩
    ·rw[List.length_map,List.length_map,List.length_take];exact small (by omega)
    ·rw[aJ (aG e hD),aJ (aG (hH _ _ e) hT)]
     exact hH _ _ e
    ·rw[aA,cI hm,hu]
     show some (HO.lst _)=some (HO.lst (((_++[_]).map Int.ofNat).map V.int))
     rw[List.map_append,List.map_append]
     rfl
   refine⟨_,rfl,rfl,_,rfl,gA (fun d=>?_) (fun d=>?_)⟩
   ·have d:V.int (fO o)=V.int (-1):=of_decide_eq_true d
    injection d with d
    obtain rfl:=N8.mp d
    exact⟨_,rfl,fin _ rfl⟩
   ·have d: ¬o=none:=fun e=>d (by rw[e];rfl)
    refine⟨_,rfl,fin _ ?_⟩
    cases o with
    |none=>exact absurd rfl d
    |some v=>rfl
  ·rintro H' ⟨hH,hD'⟩
   have e:(Sx03.moved l c).take (min (nv c).length (iv (dJ l)).length)=Sx03.moved l c:=by
    refine List.take_of_length_le ?_
    unfold dJ
    rw[ml,List.length_map,List.length_map,List.length_map,List.length_map]
    omega
   rw[e] at hD'
   exact k H' D hH hD hD'
def vf(K:PySem.W.Frag)(cR:Addr):Sp:=fun vs H Q _=>∃(z a:Addr) (ds:List Nat) (k b:Int) (l:Sx03.Cond) (op:Sx03.Op) (ce so:Addr),vs=[.ref z,.ref a]∧SqL K H z (nv ds)∧Sx03.dimsOk ds=true∧iQ cR H a k b (dJ l) op ce so∧H ce=some (.lst [])∧H so=some (.dK [])∧(∀l',op= .refer l'→Fs.zT ds l')∧
 ∀H' kvs,aL [ce,so] H H'→H' ce=some (.lst (nv (Fs.wA ds l)))→H' so=some (.dK kvs)→(∀k b,Y0 ds ⟨k,b,l,op⟩ kvs)→Q .non H'
theorem R5{ds:List Nat}(h:Sx03.dimsOk ds=true):ds.length≤4∧Sx03.product ds≤64:=by
 unfold Sx03.dimsOk at h
 simp only[Bool.and_eq_true,decide_eq_true_eq] at h
 exact⟨h.2.1,h.2.2.2⟩
theorem KH{ds:List Nat}(h:Sx03.dimsOk ds=true): ∀n∈ds,n≤8:=by
 unfold Sx03.dimsOk at h
 simp only[Bool.and_eq_true,List.all_eq_true,decide_eq_true_eq] at h
 exact fun n hn=>(h.2.2.1 n hn).2
theorem iQ.keep{cR:Addr}{H H':Hp}{a:Addr}{k b:Int}{l:List Int}{op:Sx03.Op}{ce so:Addr}{kvs:List (Key×V)}(h:iQ cR H a k b l op ce so)(hso:H so=some (.dK kvs))(s:aL [ce,so] H H')(hce: ∃ys,H ce=some (.lst ys)):iQ cR H' a k b l op ce so:=by
 obtain⟨dx,ca,la,as,h1,h2,h3,h4,h5,h6,h7⟩:=h.ex
 obtain⟨ys,hce⟩:=hce
 have ns: ∀{c:Addr} {xs:List V},H c=some (.lst xs)→c≠so:=fun e=>d8 e hso (fun q=>nomatch q)
 have nm: ∀{c:Addr},c≠ce→c≠so→c∉[ce,so]:=fun{c} n1 n2 m=>by
  rcases List.mem_cons.mp m with e|m
  ·exact n1 e
  ·exact n2 (List.mem_singleton.mp m)
 refine⟨dx,ca,la,as,s _ _ h1 (nm (d8 h1 hce (fun q=>nomatch q)) (d8 h1 hso (fun q=>nomatch q))),s _ _ h2 (nm h5 (ns h2)),s _ _ h3 (nm h6 (ns h3)),⟨h4.1,fun j c xs hc hx=>?_⟩,h5,h6,h7⟩
 have z:=h4.2 j c xs hc hx
 exact s _ _ z (nm (h7 c (List.mem_of_getElem? hc)) (ns z))
theorem Ho(F:Fun K "find_cells" "find_cells" qZ f fd)(T:Txt K mg aD aK aH au aj)(su:GF P w K mg base "list_cells" 1 ["sizes"] (vd K))(KJ:GF P w K mg base "meets" 1 ["values","condition"] (KC K))(bH:GF P w K mg base "number_cell" 1 ["sizes","values"] (jT K))(sE:GF P w K mg base "put_values" 1 ["values","told"] (WL K)):bJ P w K mg base CX0 2 f fd ["sizes","rule"] (vf K aD):=by
 refine F.ok o8 (fun vs H Q E h=>?_) (fun cdv A outer s H vs Q E hr h=>?_)
 ·obtain⟨z,a,ds,k,b,l,op,ce,so,rfl,_⟩:=h
  rfl
 ·obtain⟨z,a,ds,kk,b,l,op,ce,so,rfl,hZ,hdm,hR,hce,hso,hop,k⟩:=h
  obtain⟨d4,d64⟩:=R5 hdm
  have hu:=Nb hr
  refine⟨_,(aF (dU PassesOwn.never rfl (vL (by rfl) T.jA (ak (aQ su (hr.mono (by decide)) (ak (pv 0) aC)) aC)) (qN rfl (dz (bF (i:=2) o8.nd rfl (by first|exact Or.inl rfl|exact Or.inr rfl)) (dz (bF (i:=3) o8.nd rfl (by first|exact Or.inl rfl|exact Or.inr rfl)) mC)))
   (aF (bI (fM (aQ KJ (hr.mono (by decide)) (ak (pv 3) (ak (aW (pv 1) rfl) aC)))) (aB (dj (jw PySem.F.plainAttrs_list PySem.F.slot_list_append PySem.F.type_list_append fQ (aW (pv 1) rfl) (ak (pv 2) aC)))
   (aF (bI (aY nU (aW (pv 1) rfl) (bW T.iJ) (bx _)) (aF (RK hu (aW (pv 1) rfl) (pv 2) (aQ bH (hr.mono (by decide)) (ak (pv 0) (ak (aQ sE (hr.mono (by decide)) (ak (pv 3) (ak (cJ bK (aW (pv 1) rfl) bB (fun _ _=>rfl)) aC))) aC))) rfl)) aZ))) aZ)))),?_⟩
  refine⟨_,rfl,z,ds,rfl,hZ,KH hdm,d4,fun H1 q as hH1 fq fas hq hA=>?_⟩
  have hR1:=hR.mono hH1
  have Z9:=hH1 _ _ hce
  have aac:=hH1 _ _ hso
  have hlen:as.length=(Sx03.cells ds).length:=by rw[hA.1,List.length_map]
  have c64:(Sx03.cells ds).length≤64:=by rw[Fs.fW];exact d64
  have out: ∀{c:Addr},H c=none→c∉[ce,so]:=fun{c} hc m=>by
   rcases List.mem_cons.mp m with e|m
   ·rw[e,hce] at hc;cases hc
   ·rw[List.mem_singleton.mp m,hso] at hc;cases hc
  have hZk: ∀{H':Hp},aL [ce,so] H1 H'→SqL K H' z (nv ds):=fun{H'} kp=>(hH1.seq hZ).keep kp fun c hc u e=>by
   rcases List.mem_cons.mp hc with rfl|hc
   ·rw[Z9] at e
    cases e
    refine⟨fun q=>?_,fun o q=>(nomatch q)⟩
    have:=Fs.j4 (c:=[])
    injection q with q
    have e:ds=[]:=by
     cases ds with
     |nil=>rfl
     |cons x y=>simp at q
    rw[e] at hdm
    exact absurd hdm (by decide)
   ·rw[List.mem_singleton.mp hc,aac] at e
    cases e
    exact⟨fun q=>(nomatch q),fun o q=>(nomatch q)⟩
  refine⟨q,_,rfl,SqL.of hq,ux (K:=K) (a:=q) (xs:=as.map V.ref) (fun i σ H'=>∃v2 v3 kvs,σ=[some (.ref z),some (.ref a),v2,v3]∧aL [ce,so] H1 H'∧H' ce=some (.lst (nv (Fs.lZ ds l i)))∧H' so=some (.dK kvs)∧kvs.length≤i∧
   ∀l',op= .refer l'→∀c,Sx03.isCell ds c=true→Sx03.meets l c=true→Fs.num ds c<i→jC kvs (Sum.inl ((Fs.num ds c:Nat):Int))=some (.int (Fs.num ds (Sx03.moved l' c):Nat))) ?_ ?_ ?_ ?_⟩
  ·exact⟨none,none,[],rfl,aL.same (Same.refl _),Z9,aac,Nat.zero_le _,fun _ _ _ _ _ h=>absurd h (Nat.not_lt_zero _)⟩
  ·rintro i σ H' ⟨_,_,_,_,kp,_⟩
   exact SqL.of (kp _ _ hq (out fq))
  ·rintro i x Tp σ H2 hx hT ⟨v2,v3,kvs,rfl,kp,Ym,aad,hkl,QG⟩
   obtain⟨va,hva,rfl⟩:=bO hx
   have hi:i<(Sx03.cells ds).length:=by
    have:=(List.getElem?_eq_some_iff.mp hva).1
    omega
   have hc:(Sx03.cells ds)[i]?=some (Sx03.cells ds)[i]:=List.getElem?_eq_getElem hi
   generalize hcc:(Sx03.cells ds)[i]=c at hc
   have hcell:=Fs.Nj hc
   have hnum:=Fs.JQ hc
   have hcl:=(Fs.j5.mp hcell).1
   have hv1:H1 va=some (.lst (nv c)):=hA.2 i va _ hva (by rw[List.getElem?_map,hc];rfl)
   have hv2:=kp _ _ hv1 (out (fas va (List.mem_of_getElem? hva)))
   have sT:Same H2 (upd H2 Tp (.tup [.int (i:Nat),.ref va])):=Same.new hT
   have hR2:iQ aD (upd H2 Tp (.tup [.int (i:Nat),.ref va])) a kk b (dJ l) op ce so:=(hR1.keep aac kp ⟨_,Z9⟩).mono sT
   have hR2':=hR2
   obtain⟨dx,ca,la,ls,h1,h2,h3,h4,h5,h6,h7⟩:=hR2'.ex
   refine⟨Tp,_,rfl,SqT.of aA,rfl,_,_,rfl,_,_,rfl,rfl,?_⟩
   refine⟨_,rfl,_,rfl,a,_,dx,_,_,rfl,h1,T.bC,T.iD,rT,va,ca,c,l,rfl,SqL.of (sT _ _ hv2),SqL.of h2,fun H3 hH3=>⟨_,rfl,?_⟩⟩
   have s23:=sT.trans hH3
   have hR3:=hR2.mono hH3
   have WM:=s23 _ _ Ym
   have Yn:=s23 _ _ aad
   have kp3:=kp.trans (aL.same s23)
   have hup:=Fs.Qj (l:=l) hc
   have hml:=Fs.Ub ds l i
   cases hm:Sx03.meets l c with
   |false=>
    rw[hm,if_neg (by decide)] at hup
    refine cA ⟨_,_,kvs,rfl,kp3,by rw[hup];exact WM,Yn,by omega,fun l' e d hd hmd hlt=>?_⟩
    have nd:Fs.num ds d≠i:=fun e2=>by
     have e3:d=c:=Fs.CG hd hcell (by rw[e2,hnum])
     rw[e3,hm] at hmd
     cases hmd
    exact QG l' e d hd hmd (by omega)
   |true=>
    rw[hm,if_pos rfl] at hup
    refine cB ?_
    refine⟨_,rfl,a,_,dx,_,_,rfl,hH3 _ _ h1,T.bC,T.rK,NZ,.inl ⟨rfl,_,SqL.of WM⟩,_,rfl,ce,_,_,rfl,rfl,WM,(by rw[List.length_map,List.length_map];exact small (by omega)),?_⟩
    have en:nv (Fs.lZ ds l i)++[V.int (i:Nat)]=nv (Fs.lZ ds l (i+1)):=by
     rw[hup]
     show _=((Fs.lZ ds l i++[i]).map Int.ofNat).map V.int
     rw[List.map_append,List.map_append]
     rfl
    rw[en]
    have k4:aL [ce,so] H3 (upd H3 ce (.lst (nv (Fs.lZ ds l (i+1))))):=aL.upd (by simp)
    have hR4:=hR3.keep Yn k4 ⟨_,WM⟩
    have aae:upd H3 ce (.lst (nv (Fs.lZ ds l (i+1)))) so=some (.dK kvs):=by rw[aJ (d8 Yn WM (fun q=>nomatch q))];exact Yn
    have kp4:=kp3.trans k4
    obtain⟨dx',ca',la',ls',g1,g2,g3,g4,g5,g6,g7⟩:=hR4.ex
    have hv4:upd H3 ce (.lst (nv (Fs.lZ ds l (i+1)))) va=some (.lst (nv c)):=kp4 _ _ hv1 (out (fas va (List.mem_of_getElem? hva)))
    refine⟨_,rfl,a,_,dx',_,_,rfl,g1,T.bC,T.fJ,nG,rfl,_,rfl,gA (fun d=>?_) (fun d=>?_)⟩
    ·have d:V.int (cT op)=V.int 6:=of_decide_eq_true d
     injection d with d
     cases op with
     |refer l'=>
      have hco:=hop l' rfl
      have hx0:ls'[0]?=some (ls'[0]'(by rw[g4.1];exact Nat.zero_lt_one)):=List.getElem?_eq_getElem _
      have hl0:=g4.2 0 _ (dJ l') hx0 rfl
      refine⟨_,rfl,_,rfl,_,rfl,a,_,dx',_,_,rfl,g1,T.bC,T.dH,jV,la',_,_,_,rfl,rfl,SqL.of g3,at_of (j:=0) rfl (by rw[List.getElem?_map,hx0];rfl),va,_,c,l',rfl,SqL.of hv4,SqL.of hl0,by rw[hco.1];exact hcl,by rw[hcl];exact d4,fun H5 q5 hH5 fq5 hq5=>?_⟩
      have hmv:=Fs.Ed hco hcell
      refine⟨z,q5,ds,_,rfl,hH5.seq (hZk kp4),SqL.of hq5,hmv,KH hdm,fun H6 hH6=>?_⟩
      have s46:=hH5.trans hH6
      refine⟨_,rfl,a,_,dx',_,_,rfl,s46 _ _ g1,T.bC,T.m9,Fo,_,rfl,so,_,rfl,Te.k (k:=Sum.inl ((i:Nat):Int)) (s46 _ _ aae) (small (by omega)),?_⟩
      refine⟨_,_,_,rfl,(kp4.trans (aL.same s46)).trans (aL.upd (by simp)),?_,aA,by have:=n8 kvs (Sum.inl ((i:Nat):Int)) (.int (Fs.num ds (Sx03.moved l' c):Nat));omega,fun l2 e d hd hmd hlt=>?_⟩
      ·rw[aJ (d8 (s46 _ _ aA) (s46 _ _ aae) (fun q=>nomatch q))]
       exact s46 _ _ aA
      ·injection e with e
       subst e
       rw[M4]
       by_cases q2:Fs.num ds d=i
       ·have e3:d=c:=Fs.CG hd hcell (by rw[q2,hnum])
        rw[q2,if_pos rfl,e3]
       ·rw[if_neg (fun e=>q2 (by injection e with e;omega))]
        exact QG l' rfl d hd hmd (by omega)
     |_=>exact absurd d (by simp only[cT];decide)
    ·refine⟨_,_,kvs,rfl,kp4,aA,aae,by omega,fun l' e=>?_⟩
     rw[e] at d
     exact absurd (decide_eq_true rfl) d
  ·rintro σ H' ⟨v2,v3,kvs,rfl,kp,Ym,aad,hkl,QG⟩
   rw[List.length_map,hlen] at Ym QG
   refine k H' kvs (fun c o e n=>kp c o (hH1 _ _ e) n) Ym aad fun k b l' e c hc hm=>?_
   exact QG l' e c hc hm (by rw[Fs.fW];exact Fs.Qe hc)
end
theorem gG.ne{K:PySem.W.Frag}{c:Addr}{H:Hp}{r a:Addr}{ns rest:List Int}(h:gG K c H r a ns rest):H r≠none:=by
 obtain⟨_,_,z⟩:=h.ins
 rw[z];exact fun q=>nomatch q
theorem yP{S:Sh}{l r:Addr}(h:Out S l r): ∀b∈[r],Out S l b:=fun b hb=>by rw[List.mem_singleton.mp hb];exact h
theorem Um{H H1 H2:Hp}(h: ∀b,H1 b=none→H b=none):Same (newH H1 H2) (newH H H2):=fun b o e=>iM (h b (dO e).1) (dO e).2
theorem Jg{α β:Type}(f:α→β): ∀(l:List α) (k:Nat),(l.map f).eraseIdx k=(l.eraseIdx k).map f
 |[],_=>rfl
 |_::_,0=>rfl
 |a::r,k+1=>by
  show f a::(r.map f).eraseIdx k=f a::(r.eraseIdx k).map f
  rw[Jg f r k]
theorem Jh{ds:List Nat}(h:Sx03.dimsOk ds=true): ∀n∈ds,n≤8:=by
 unfold Sx03.dimsOk at h
 simp only[Bool.and_eq_true,List.all_eq_true,decide_eq_true_eq] at h
 exact fun n hn=>(h.2.2.1 n hn).2
section
variable{P:Program}{w:World}{K:PySem.W.Frag}{mg:Str→Option Value}{base:Heap}{au aD aj aH:Addr}{f:Addr}{fd:FuncData}
def R6(K:PySem.W.Frag)(cRd cL cR cW:Addr):Sp:=fun vs H Q _=>∃(l r:Addr) (s:Sx03.St) (t:Nat) (S:Sh) (ds:List Nat),vs=[.ref l,.ref r]∧nJ K cRd cL cR cW H l r s t S ((ds.length:Int)::bh ds)∧Done cL cR cW H l r s t S (.new_ ds) Q
theorem Ob(F:Fun K "call_new" "call_new" wV f fd)(T:Txt K mg aD aK aH au aj)(aM:GM P w K mg base au "take_list" 3 ["self"] (cQ K au))(vg:GF P w K mg base "are_sizes" 2 ["sizes"] (Kc K))(eN:GM P w K mg base aj "begin" 1 ["self","sizes"] (CN aj))(dI:GF P w K mg base "count_cells" 1 ["sizes"] (yI K)):bJ P w K mg base CX0 4 f fd ["language","told"] (R6 K au aj aD aH):=by
 refine F.ok Bv (fun vs H Q E h=>?_) (fun cdv A outer s H vs Q E hr h=>?_)
 ·obtain⟨l,r,s,t,S,ds,rfl,_⟩:=h
  rfl
 ·obtain⟨l,r,s0,t,S,ds,rfl,I,D⟩:=h
  obtain⟨a,ns,hR⟩:=I.rd
  have st:Sx03.step s0 (.new_ ds)=if Sx03.dimsOk ds=false then(s0,Sx03.ok (-1)) else(⟨ds,[],[],[]⟩,Sx03.ok (Sx03.product ds:Nat)):=rfl
  refine⟨_,(aB (aX (i:=2) Bv.nd rfl (by first|exact Or.inl rfl|exact Or.inr rfl) (bf (pv 1) aM (hr.mono (by decide))))
   (aB (bI (gM (fM (aQ vg (hr.mono (by decide)) (ak (pv 2) aC)))) (aF (aP (bG (ak (bW T.cX) aC)))) aZ)
   (aB (dj (jc (pv 0) eN (hr.mono (by decide)) (ak (pv 2) aC)))
   (aF (aP (bG (ak (aQ dI (hr.mono (by decide)) (ak (pv 2) aC)) aC))))))),?_⟩
  obtain⟨dx0,p0,h0⟩:=hR.at
  refine⟨_,rfl,r,_,_,rfl,h0,cG,r,a,ns,bh ds,[],rfl,(by rw[bU,List.append_nil];exact hR),fun H1 za k1 hR1 hz0 hz1=>?_⟩
  have L1:=I.lat.keep k1 (yP I.out)
  refine⟨_,rfl,za,ds,rfl,SqL.of hz1,fun H2 hH=>⟨_,rfl,?_⟩⟩
  have L2:=L1.same hH
  have hR2:=hR1.same hH
  have k2:=k1.trans (aL.same hH)
  cases hd:Sx03.dimsOk ds with
  |false=>
   rw[hd,if_pos rfl] at st
   exact cB ⟨by show 1≤sizeLine;decide,fun q hq=>D.refuse st k2 hR2.ne L2 hq⟩
  |true=>
   rw[hd,if_neg (by decide)] at st
   refine cA ?_
   have hz2:=hH _ _ hz1
   refine⟨_,rfl,l,_,_,rfl,L2.lang,Ww,_,rfl,l,_,za,_,rfl,L2.lang,.inr ⟨_,_,_,_,rfl⟩,fun H3 pa ra wa g1 g2 g3 g4 f1 f2 f3 n1 n2 n3 k3=>?_⟩
   have nzl:za≠l:=fun e=>by rw[e,I.lat.lang] at hz0;cases hz0
   have hz3:H3 za=some (.lst (nv ds)):=k3 _ _ hz2 (by simpa using nzl)
   refine⟨_,rfl,za,ds,rfl,SqL.of hz3,Jh hd,fun H4 hH4=>⟨by show 1≤sizeLine;decide,fun q hq=>?_⟩⟩
   have s4:Same H3 (upd H4 q (.lst [.int (Sx03.product ds:Nat)])):=hH4.trans (Same.new hq)
   have L3:LAt aj aD aH H3 l ⟨ds,[],[],[]⟩ (t+1) _:=R0 g1 hz3 g2 g3 g4 n1 n2 n3 (aG hz2 f1) (aG hz2 f2) (aG hz2 f3)
   refine D _ _ q (by rw[st];exact L3.same s4) ?_ ?_ ?_ (by rw[st];exact aA)
   ·intro b ho hb
    have nb: ∀{c:Addr},H c=none→b≠c:=fun{c} hc e=>hb (by rw[e];exact hc)
    refine⟨fun m=>?_,(aJ (nb hz0):upd (fun _=>none) za (.lst (nv ds)) b=_)⟩
    have m:b=l∨b=pa∨b=ra∨b=wa:=by simpa [Sh.own] using m
    rcases m with e|e|e|e
    ·exact ho.1 (by rw[e];simp[Sh.own])
    ·exact nb (hR2.free k2 f1) e
    ·exact nb (hR2.free k2 f2) e
    ·exact nb (hR2.free k2 f3) e
   ·refine((k2.mono (l':=r::S.own l) (by simp)).trans (k3.mono (by simp[Sh.own]))).trans (aL.same s4)
   ·refine hR2.free k2 ?_
    cases e:H2 q with
    |none=>rfl
    |some o=>
     by_cases ql:q=l
     ·rw[ql,hH4 _ _ g1] at hq;cases hq
     ·rw[hH4 _ _ (k3 q o e (by simpa using ql))] at hq;cases hq
def KN(K:PySem.W.Frag)(cRd cL cR cW:Addr):Sp:=fun vs H Q _=>∃(l r:Addr) (s:Sx03.St) (t:Nat) (S:Sh) (k b:Nat) (zs:List Int) (op:Sx03.Op),vs=[.ref l,.ref r]∧
 nJ K cRd cL cR cW H l r s t S ((k:Int)::(b:Int)::(zs.length:Int)::(zs++(cT op::(xq op++enc (bL op)))))∧s.dims≠[]∧Done cL cR cW H l r s t S (.rule k b zs op) Q
theorem Uo(ds:List Nat)(zs:List Int):Sx03.condOf ds zs=if condB ds zs=true then some (zs.map fun z=>if z<0 then none else some z.toNat) else none:=rfl
theorem QH{ds:List Nat}{zs:List Int}(h:condB ds zs=true):dJ (zs.map fun z=>if z<0 then none else some z.toNat)=zs:=by
 obtain⟨h1,h2⟩:=mR.mp h
 unfold dJ
 rw[List.map_map]
 conv=>rhs;rw[←List.map_id zs]
 refine List.map_congr_left fun z hz=>?_
 obtain⟨i,hi⟩:=List.mem_iff_getElem?.mp hz
 have hl:=(List.getElem?_eq_some_iff.mp hi).1
 have:=h2 i z _ hi (List.getElem?_eq_getElem (by rw[←h1];exact hl))
 show fO (if z<0 then none else some z.toNat)=z
 split
 ·show(-1:Int)=z;omega
 ·show((z.toNat:Nat):Int)=z;omega
theorem KQ(F:Fun K "call_rule" "call_rule" uT f fd)(T:Txt K mg aD aK aH au aj)(aN:GM P w K mg base au "take" 2 ["self"] (gD K au))(bN:GM P w K mg base aj "has_group" 1 ["self","group"] (nH aj aD aH))(vh:GF P w K mg base "read_rule" 4 ["group","block","told"] (xr K au aD))(xH:GF P w K mg base "is_sound" 3 ["sizes","rule"] (Ky K aD))(sG:GF P w K mg base "find_cells" 2 ["sizes","rule"] (vf K aD))(rZ:GF P w K mg base "keep" 1 ["kept","thing","most"] (z9)):bJ P w K mg base CX0 5 f fd ["language","told"] (KN K au aj aD aH):=by
 refine F.ok mK (fun vs H Q E h=>?_) (fun cdv A outer s H vs Q E hr h=>?_)
 ·obtain⟨l,r,s,t,S,k,b,zs,op,rfl,_⟩:=h
  rfl
 ·obtain⟨l,r,s0,t,S,k,b,zs,op,rfl,I,hd,D⟩:=h
  obtain⟨a,ns,hR⟩:=I.rd
  have st:Sx03.step s0 (.rule k b zs op)=if s0.classes.length≤k then(s0,Sx03.ok (-2)) else match Sx03.condOf s0.dims zs with
   |none=>(s0,Sx03.ok (-1))
   |some z=>if Sx03.opOk s0.dims b op=false then(s0,Sx03.ok (-1)) else if 200≤s0.rules.length then(s0,Sx03.ok (-5)) else({s0 with rules:=s0.rules++[⟨k,b,z,op⟩]},Sx03.ok (s0.rules.length:Nat)):=by
   show(if s0.dims=[] then _ else _)=_
   rw[if_neg hd]
   rfl
  refine⟨_,(aB (aX (i:=2) mK.nd rfl (by first|exact Or.inl rfl|exact Or.inr rfl) (bf (pv 1) aN (hr.mono (by decide))))
   (aB (aX (i:=3) mK.nd rfl (by first|exact Or.inl rfl|exact Or.inr rfl) (bf (pv 1) aN (hr.mono (by decide))))
   (aB (bI (gM (fM (jc (pv 0) bN (hr.mono (by decide)) (ak (pv 2) aC)))) (aF (aP (bG (ak (bW T.fK) aC)))) aZ)
   (aB (aX (i:=4) mK.nd rfl (by first|exact Or.inl rfl|exact Or.inr rfl) (aQ vh (hr.mono (by decide)) (ak (pv 2) (ak (pv 3) (ak (pv 1) aC)))))
   (aB (bI (xX (aY zK (pv 4) dW (bx _)) (qM (gM (fM (aQ xH (hr.mono (by decide)) (ak (aW (pv 0) rfl) (ak (pv 4) aC))))))).pt (aF (aP (bG (ak (bW T.cX) aC)))) aZ)
   (aB (dj (aQ sG (hr.mono (by decide)) (ak (aW (pv 0) rfl) (ak (pv 4) aC))))
   (aF (aP (aQ rZ (hr.mono (by decide)) (ak (aW (pv 0) rfl) (ak (pv 4) (ak (bW T.rP) aC)))))))))))),?_⟩
  obtain⟨dx0,p0,h0⟩:=hR.at
  refine⟨_,rfl,r,_,_,rfl,h0,dN,r,a,ns,(k:Int),_,rfl,hR,fun H1 k1 hR1=>?_⟩
  obtain⟨dx1,p1,h1⟩:=hR1.at
  refine⟨_,rfl,r,_,_,rfl,h1,dN,r,a,ns,(b:Int),_,rfl,hR1,fun H2 k2 hR2=>?_⟩
  have k02:=k1.trans k2
  have L2:=I.lat.keep k02 (yP I.out)
  refine⟨_,rfl,l,_,_,rfl,L2.lang,rR,_,rfl,l,s0,t,S,(k:Int),rfl,L2,fun H3 hH3=>⟨_,rfl,?_⟩⟩
  have k03:=k02.trans (aL.same hH3)
  have L3:=L2.same hH3
  have hR3:=hR2.same hH3
  by_cases hg:0≤(k:Int)∧(k:Int)<(s0.classes.length:Int)
  ·rw[decide_eq_true hg]
   rw[if_neg (show¬s0.classes.length≤k by omega)] at st
   refine cA ⟨_,rfl,_,rfl,_,rfl,r,a,ns,(k:Int),(b:Int),zs,op,rfl,hR3,fun H4 u ce so k4 hR4 hU hce hso=>?_⟩
   have k04:=k03.trans k4
   have L4:=L3.keep k4 (yP I.out)
   have nb:Same (newH H3 H4) (newH H H4):=Um fun b hb=>hR3.free k03 hb
   have hU0:iQ aD (newH H H4) u (k:Nat) (b:Nat) zs op ce so:=hU.mono nb
   have vV:=nb _ _ hce
   have pN:=nb _ _ hso
   have hU4:iQ aD H4 u (k:Nat) (b:Nat) zs op ce so:=hU.mono fun b o e=>(dO e).2
   refine⟨_,rfl,rfl,_,rfl,cA ⟨_,rfl,l,_,_,_,_,rfl,L4.lang,T.aR,T.bM,iu,_,rfl,S.za,u,s0.dims,_,b,zs,op,ce,so,rfl,SqL.of (L4.sub _ _ L4.sizes),hU4,fun H5 hH5=>⟨_,rfl,?_⟩⟩⟩
   have k05:=k04.trans (aL.same hH5)
   have L5:=L4.same hH5
   have hR5:=hR4.same hH5
   rw[Uo] at st
   have no:(condB s0.dims zs&&Sx03.opOk s0.dims b op)=false→Sx03.step s0 (.rule k b zs op)=(s0,Sx03.ok (-1)):=fun e=>by
    rw[st]
    cases hc:condB s0.dims zs with
    |false=>rfl
    |true=>
     rw[hc,Bool.true_and] at e
     rw[if_pos rfl]
     show(if Sx03.opOk s0.dims b op=false then _ else _)=_
     rw[if_pos e]
   cases hs:(condB s0.dims zs&&Sx03.opOk s0.dims b op) with
   |false=>exact cB ⟨by show 1≤sizeLine;decide,fun q hq=>D.refuse (no hs) k05 hR5.ne L5 hq⟩
   |true=>
    obtain⟨hc,ho⟩:=(Bool.and_eq_true _ _).mp hs
    rw[hc,if_pos rfl] at st
    have st:Sx03.step s0 (.rule k b zs op)=if Sx03.opOk s0.dims b op=false then(s0,Sx03.ok (-1)) else if 200≤s0.rules.length then(s0,Sx03.ok (-5)) else({s0 with rules:=s0.rules++[⟨k,b,_,op⟩]},Sx03.ok (s0.rules.length:Nat)):=st
    rw[ho,if_neg (by decide)] at st
    have n5:Same (newH H H4) (newH H H5):=Ac hH5
    have aaf:=n5 _ _ vV
    have aag:=n5 _ _ pN
    have fce:=(dO aaf).1
    have fso:=(dO aag).1
    have hU5:iQ aD (newH H H5) u (k:Nat) (b:Nat) (dJ (zs.map fun z=>if z<0 then none else some z.toNat)) op ce so:=by
     rw[QH hc]
     exact hU0.mono n5
    refine cA ⟨_,rfl,l,_,_,_,_,rfl,L5.lang,T.aR,T.bM,iu,_,rfl,S.za,u,s0.dims,_,_,_,op,ce,so,rfl,SqL.of (L5.sub _ _ L5.sizes),I.wf.dimsOk hd,hU5.mono (fun b o e=>(dO e).2),(dO aaf).2,(dO aag).2,fun l' e=>Fs.Nq (b:=b) (by rw[←e];exact ho),fun H6 kvs k6 hce6 hso6 src=>?_⟩
    have nr: ∀b,H b≠none→b∉[ce,so]:=fun b hb m=>by
     rcases List.mem_cons.mp m with e|m
     ·exact hb (by rw[e];exact fce)
     ·exact hb (by rw[List.mem_singleton.mp m];exact fso)
    have k06:aL [r] H H6:=fun b o e n=>k6 b o (k05 b o e n) (nr b (by rw[e];exact fun q=>nomatch q))
    have hr6:H6 r≠none:=by
     obtain⟨_,_,z⟩:=hR5.ins
     rw[k6 _ _ z (nr r hR.ne)];exact fun q=>nomatch q
    have fr: ∀b,H6 b=none→H b=none:=fun b hb=>rW k06 hb fun e=>hr6 (by rw[←e];exact hb)
    have L6:=L5.keep k6 (fun b hb=>by
     rcases List.mem_cons.mp hb with e|m
     ·rw[e];exact I.lat.out fce
     ·rw[List.mem_singleton.mp m];exact I.lat.out fso)
    have hU6:iQ aD (newH H H6) u (k:Nat) (b:Nat) (dJ (zs.map fun z=>if z<0 then none else some z.toNat)) op ce so:=hU5.keep aag (fun b o e n=>iM (dO e).1 (k6 b o (dO e).2 n)) ⟨_,aaf⟩
    refine⟨_,rfl,l,_,_,_,_,rfl,L6.lang,T.aR,T.cF,lJ,_,rfl,S.ra,_,.ref u,200,rfl,L6.rules,by decide,fun hm H7 q hH7 hq0 hq=>?_,fun hm H7 q k7 hp7 hq0 hq=>?_⟩
    ·rw[List.length_map,I.lat.rlen] at hm
     rw[if_pos hm] at st
     exact D.tell st (k06.trans (aL.same hH7)) (L6.same hH7) (fr q hq0) hq
    ·rw[List.length_map,I.lat.rlen] at hm hq
     rw[if_neg (by omega)] at st
     have e:S.ras.map V.ref++[V.ref u]=(S.ras++[u]).map V.ref:=by rw[List.map_append];rfl
     rw[e] at hp7
     have hF:Same S.F (freeze S.F H H6 []):=oH
     have hF2:Same (newH H H6) (freeze S.F H H6 []):=fun b o e=>xu e I.lat.sub (by simp)
     have hown: ∀b∈S.own l,freeze S.F H H6 [] b=none:=fun b hb=>kI (I.lat.nf b hb) (I.lat.Ad hb)
     have L7:=L6.N7 (rs:=s0.rules++[⟨k,b,zs.map fun z=>if z<0 then none else some z.toNat,op⟩]) (ras:=S.ras++[u]) (F':=freeze S.F H H6 []) k7 hp7 hF
      (xG (fun b o e=>k7 b o (L6.sub b o e) fun m=>by rw[List.mem_singleton.mp m,L6.nf _ (by simp[Sh.own])] at e;cases e)
       (fun b o e _=>k7 b o (dO e).2 fun m=>by rw[List.mem_singleton.mp m] at e;exact I.lat.Ad (b:=S.ra) (by simp[Sh.own]) (dO e).1))
      hown (by rw[List.length_append,List.length_append,I.lat.rlen];rfl) (fun j c ru hj hru=>?_)
     ·refine D H7 _ q (by rw[st];exact L7.later (Nat.le_succ t)) ?_ ?_ (fr q hq0) (by rw[st];exact hq)
      ·exact fun b ho hb=>⟨ho.1,kI ho.2 hb⟩
      ·exact(k06.mono (l':=r::S.own l) (by simp)).trans (k7.mono (by simp[Sh.own]))
     ·by_cases hjl:j<S.ras.length
      ·rw[List.getElem?_append_left hjl] at hj
       rw[List.getElem?_append_left (by rw[←I.lat.rlen];exact hjl)] at hru
       exact(I.lat.rat j c ru hj hru).mono hF
      ·rw[List.getElem?_append_right (by omega)] at hj
       rw[List.getElem?_append_right (by rw[←I.lat.rlen];omega),←I.lat.rlen] at hru
       have e0:j - S.ras.length=0:=by
        have:=(List.getElem?_eq_some_iff.mp hj).1
        simp at this
        omega
       rw[e0] at hj hru
       have e1:u=c:=Option.some.inj hj
       have e2:_=ru:=Option.some.inj hru
       subst e1 e2
       exact⟨ce,so,kvs,hU6.mono hF2,hF2 _ _ (iM fce hce6),hF2 _ _ (iM fso hso6),src _ _⟩
  ·rw[decide_eq_false hg]
   rw[if_pos (show s0.classes.length≤k by omega)] at st
   exact cB ⟨by show 1≤sizeLine;decide,fun q hq=>D.refuse st k03 hR3.ne L3 hq⟩
def KR(K:PySem.W.Frag)(cRd cL cR cW:Addr):Sp:=fun vs H Q _=>∃(l r:Addr) (s:Sx03.St) (t:Nat) (S:Sh) (k:Nat),vs=[.ref l,.ref r]∧nJ K cRd cL cR cW H l r s t S [(k:Int)]∧s.dims≠[]∧Done cL cR cW H l r s t S (.drop k) Q
theorem KY(F:Fun K "call_drop" "call_drop" uU f fd)(T:Txt K mg aD aK aH au aj)(aN:GM P w K mg base au "take" 2 ["self"] (gD K au))(iW:GM P w K mg base aj "has_rule" 1 ["self","rule"] (z7 aj aD aH)):bJ P w K mg base CX0 3 f fd ["language","told"] (KR K au aj aD aH):=by
 refine F.ok yG (fun vs H Q E h=>?_) (fun cdv A outer s H vs Q E hr h=>?_)
 ·obtain⟨l,r,s,t,S,k,rfl,_⟩:=h
  rfl
 ·obtain⟨l,r,s0,t,S,k,rfl,I,hd,D⟩:=h
  obtain⟨a,ns,hR⟩:=I.rd
  have st:Sx03.step s0 (.drop k)=if s0.rules.length≤k then(s0,Sx03.ok (-2)) else({s0 with rules:=s0.rules.eraseIdx k},Sx03.ok (s0.rules.length - 1:Nat)):=by
   show(if s0.dims=[] then _ else _)=_
   rw[if_neg hd]
   rfl
  refine⟨_,(aB (aX (i:=2) yG.nd rfl (by first|exact Or.inl rfl|exact Or.inr rfl) (bf (pv 1) aN (hr.mono (by decide))))
   (aB (bI (gM (fM (jc (pv 0) iW (hr.mono (by decide)) (ak (pv 2) aC)))) (aF (aP (bG (ak (bW T.fK) aC)))) aZ)
   (aB (dj (jw PySem.F.plainAttrs_list PySem.F.slot_list_pop PySem.F.type_list_pop Vt (aW (pv 0) rfl) (ak (pv 2) aC)))
   (aF (aP (bG (ak (bA aV (by rfl) T.cV PySem.boot_len (ak (aW (pv 0) rfl) aC)) aC))))))),?_⟩
  obtain⟨dx0,p0,h0⟩:=hR.at
  refine⟨_,rfl,r,_,_,rfl,h0,dN,r,a,ns,(k:Int),_,rfl,hR,fun H1 k1 hR1=>?_⟩
  have L1:=I.lat.keep k1 (yP I.out)
  refine⟨_,rfl,l,_,_,rfl,L1.lang,NQ,_,rfl,l,s0,t,S,(k:Int),rfl,L1,fun H2 hH2=>⟨_,rfl,?_⟩⟩
  have k02:=k1.trans (aL.same hH2)
  have L2:=L1.same hH2
  have hR2:=hR1.same hH2
  have nr:=I.wf.Qh
  by_cases hg:0≤(k:Int)∧(k:Int)<(s0.rules.length:Int)
  ·rw[decide_eq_true hg]
   rw[if_neg (show¬s0.rules.length≤k by omega)] at st
   have hk:k<S.ras.length:=by rw[I.lat.rlen];omega
   have hx:(S.ras.map V.ref)[k]?=some (V.ref S.ras[k]):=by rw[List.getElem?_map,List.getElem?_eq_getElem hk];rfl
   refine cA ⟨_,rfl,l,_,_,_,_,rfl,L2.lang,T.aR,T.cF,lJ,.inl ⟨rfl,_,SqL.of L2.rules⟩,_,rfl,S.ra,_,(k:Int),k,_,rfl,rfl,L2.rules,by omega,by omega,?_,hx,?_⟩
   ·rw[seqIndex_of (by omega) (by rw[List.length_map];omega)]
    exact congrArg some (Int.toNat_natCast k)
   ·have nl:l≠S.ra:=d8 L2.lang L2.rules (fun q=>nomatch q)
    have hl3:upd H2 S.ra (.lst ((S.ras.map V.ref).eraseIdx k)) l=some (.ins aj S.dx (lf S.za S.pa S.ra S.wa)):=by rw[aJ nl];exact L2.lang
    refine⟨_,rfl,l,_,_,_,_,rfl,hl3,T.aR,T.cF,lJ,S.ra,_,rfl,.inl (SqL.of aA),(by show 1≤sizeLine;decide),fun q hq=>?_⟩
    obtain⟨nq,hq0⟩:=bw hq
    have e:(S.ras.map V.ref).eraseIdx k=(S.ras.eraseIdx k).map V.ref:=by
     exact Jg _ _ _
    have k3:aL [S.ra] H2 (upd (upd H2 S.ra (.lst ((S.ras.map V.ref).eraseIdx k))) q (.lst [.int ((((S.ras.map V.ref).eraseIdx k).length:Nat):Int)])):=(aL.upd (by simp)).trans (aL.same (Same.new hq))
    have L3:=L2.N7 (rs:=s0.rules.eraseIdx k) (ras:=S.ras.eraseIdx k) (F':=S.F) k3 (by rw[aJ (Ne.symm nq),aA,e]) (Same.refl _)
     (fun b o e=>k3 b o (L2.sub b o e) fun m=>by rw[List.mem_singleton.mp m,L2.nf _ (by simp[Sh.own])] at e;cases e) L2.nf
     (by rw[List.length_eraseIdx,List.length_eraseIdx,I.lat.rlen]) (fun j c ru hj hru=>?_)
    ·refine D _ {S with ras:=S.ras.eraseIdx k} q (by rw[st];exact L3.later (Nat.le_succ t)) (fun b ho _=>ho) ?_ (hR2.free k02 hq0) ?_
     ·exact(k02.mono (l':=r::S.own l) (by simp)).trans (k3.mono (by simp[Sh.own]))
     ·rw[st,aA]
      show some (HO.lst [V.int ((((S.ras.map V.ref).eraseIdx k).length:Nat):Int)])=some (HO.lst [V.int ((s0.rules.length - 1:Nat):Int)])
      rw[List.length_eraseIdx,if_pos (by rw[List.length_map];exact hk),List.length_map,I.lat.rlen]
    ·rw[List.getElem?_eraseIdx] at hj hru
     split at hj
     ·rename_i hjk
      rw[if_pos hjk] at hru
      exact I.lat.rat j c ru hj hru
     ·rename_i hjk
      rw[if_neg hjk] at hru
      exact I.lat.rat (j+1) c ru hj hru
  ·rw[decide_eq_false hg]
   rw[if_pos (show s0.rules.length≤k by omega)] at st
   exact cB ⟨by show 1≤sizeLine;decide,fun q hq=>D.refuse st k02 hR2.ne L2 hq⟩
end
theorem Ji{κ:Type}[DecidableEq κ](k j:κ): ∀kvs:List (κ×V),jC (n6 kvs k) j=if j=k then none else jC kvs j
 |[]=>by split<;>rfl
 |p::r=>by
  have ih:=Ji k j r
  by_cases e:p.1=k
  ·rw[Tn e,ih]
   by_cases q:j=k
   ·rw[if_pos q,if_pos q]
   ·rw[if_neg q,if_neg q,fC (by rw[e];exact fun z=>q z.symm)]
  ·rw[Tt e]
   by_cases q:p.1=j
   ·rw[fV q,fV q,if_neg (by rw[←q];exact e)]
   ·rw[fC q,fC q,ih]
section
variable{cL cR cW:Addr}{H H1 H':Hp}{l r q:Addr}{s:Sx03.St}{t:Nat}{S:Sh}
theorem LAt.WQ(L:LAt cL cR cW H l s t S){x d:Addr}{wd:Sx03.Word}{F':Hp}(k:aL [S.wa] H H')(h:H' S.wa=some (.lst ((S.was++[x]).map V.ref)))(hF:Same S.F F')(hS:Same F' H')(hn: ∀b∈S.own l,F' b=none)(hd:d∉S.own l)(hdF:F' d=none)
  (hA:Qz cW F' H' s.dims x d wd t):LAt cL cR cW H' l {s with words:=s.words++[wd]} t {S with was:=S.was++[x],das:=S.das++[d],F:=F'}:=by
 have n1:l≠S.wa:=d8 L.lang L.words (fun q=>nomatch q)
 have nd0:(l::S.pa::S.ra::S.wa::S.das).Nodup:=L.nd
 have nd':=nd0
 simp only[List.nodup_cons,List.mem_cons,not_or] at nd'
 obtain⟨_,⟨_,m1,_⟩,⟨m2,_⟩,m3,_⟩:=nd'
 refine⟨k _ _ L.lang (by simpa using n1),hS,hF _ _ L.sizes,k _ _ L.par (by simpa using m1),k _ _ L.rules (by simpa using m2),L.rlen,fun j a r h1 h2=>(L.rat j a r h1 h2).mono hF,h,by rw[List.length_append,List.length_append,L.tG];rfl,by rw[List.length_append,List.length_append,L.wY];rfl,fun j a e w h1 h2 h3=>?_,?_,?_⟩
 ·by_cases hj:j<s.words.length
  ·rw[List.getElem?_append_left (by rw[L.tG];exact hj)] at h1
   rw[List.getElem?_append_left (by rw[L.wY];exact hj)] at h2
   rw[List.getElem?_append_left hj] at h3
   obtain⟨dx,sa,as,kvs,q1,q2,q3,q4,q5,q6⟩:=(L.wat j a e w h1 h2 h3).ex
   exact⟨dx,sa,as,kvs,hF _ _ q1,hF _ _ q2,q3.mono fun a _ o e=>hF a o e,k _ _ q4 (by simpa using fun z:e=S.wa=>m3 (by rw[←z];exact List.mem_of_getElem? h2)),fun c hc=>(q5 c hc).mono hF,q6⟩
  ·rw[List.getElem?_append_right (by rw[L.tG];omega),L.tG] at h1
   rw[List.getElem?_append_right (by rw[L.wY];omega),L.wY] at h2
   rw[List.getElem?_append_right (by omega)] at h3
   have e0:j - s.words.length=0:=by
    have:=(List.getElem?_eq_some_iff.mp h3).1
    simp at this
    omega
   rw[e0] at h1 h2 h3
   cases h1
   cases h2
   cases h3
   exact hA
 ·show(l::S.pa::S.ra::S.wa::(S.das++[d])).Nodup
  have e:l::S.pa::S.ra::S.wa::(S.das++[d])=S.own l++[d]:=rfl
  rw[e]
  exact JL L.nd hd
 ·intro b hb
  have hb:b∈S.own l++[d]:=hb
  rcases List.mem_append.mp hb with hb|hb
  ·exact hn b hb
  ·rw[List.mem_singleton.mp hb];exact hdF
theorem LAt.WR(L:LAt cL cR cW H l s t S){n:Nat}{a d:Addr}{wd:Sx03.Word}{odd:Fs.Wg}{kvs:List (Key×V)}{F':Hp}(ha:S.was[n]?=some a)(hd:S.das[n]?=some d)(hw:s.words[n]?=some wd)
  (k:aL [d] H H') (h:H' d=some (.dK kvs)) (hF:Same S.F F') (hS:Same F' H') (hn: ∀b∈S.own l,F' b=none) (hO:Wy F' s.dims kvs odd) (hl:kvs.length≤t+1):
  LAt cL cR cW H' l (s.setWord n {wd with odd:=odd}) (t+1) {S with F:=F'}:=by
 have nd':(l::S.pa::S.ra::S.wa::S.das).Nodup:=L.nd
 simp only[List.nodup_cons,List.mem_cons,not_or] at nd'
 obtain⟨⟨_,_,_,m0⟩,⟨_,_,m1⟩,⟨_,m2⟩,m3,m4⟩:=nd'
 have md:=List.mem_of_getElem? hd
 have ne: ∀{c:Addr},c∉S.das→c∉[d]:=fun{c} z q=>z (by rw[List.mem_singleton.mp q];exact md)
 refine⟨k _ _ L.lang (ne m0),hS,hF _ _ L.sizes,k _ _ L.par (ne m1),k _ _ L.rules (ne m2),L.rlen,fun j a r h1 h2=>(L.rat j a r h1 h2).mono hF,k _ _ L.words (ne m3),?_,?_,fun j b e w h1 h2 h3=>?_,L.nd,hn⟩
 ·show S.was.length=(s.words.set n _).length
  rw[List.length_set];exact L.tG
 ·show S.das.length=(s.words.set n _).length
  rw[List.length_set];exact L.wY
 ·have h3:(s.words.set n {wd with odd:=odd})[j]?=some w:=h3
  by_cases hj:j=n
  ·subst hj
   rw[ha] at h1
   rw[hd] at h2
   rw[List.getElem?_set_self (List.getElem?_eq_some_iff.mp hw).1] at h3
   cases h1
   cases h2
   cases h3
   obtain⟨dx,sa,as,kvs0,q1,q2,q3,q4,q5,q6⟩:=(L.wat j a d wd ha hd hw).ex
   exact⟨dx,sa,as,kvs,hF _ _ q1,hF _ _ q2,q3.mono fun a _ o e=>hF a o e,h,hO,hl⟩
  ·rw[List.getElem?_set_ne (fun z=>hj z.symm)] at h3
   obtain⟨dx,sa,as,kvs0,q1,q2,q3,q4,q5,q6⟩:=(L.wat j b e w h1 h2 h3).ex
   have ned:e≠d:=fun z=>hj (YS m4 (by rw[z] at h2;exact h2) hd)
   exact⟨dx,sa,as,kvs0,hF _ _ q1,hF _ _ q2,q3.mono fun a _ o e=>hF a o e,k _ _ q4 (by simpa using ned),fun c hc=>(q5 c hc).mono hF,by omega⟩
theorem LAt.word(L:LAt cL cR cW H l s t S){n:Nat}{wd:Sx03.Word}(h:s.words[n]?=some wd): ∃a d,S.was[n]?=some a∧S.das[n]?=some d:=by
 have hn:=(List.getElem?_eq_some_iff.mp h).1
 exact⟨_,_,List.getElem?_eq_getElem (by rw[L.tG];exact hn),List.getElem?_eq_getElem (by rw[L.wY];exact hn)⟩
end
theorem WT(ts:List (List Nat)):enc (ts.map bh)=ts.flatMap fun b=>(b.length:Int)::bh b:=by
 unfold enc
 rw[List.flatMap_map]
 refine congrArg (fun g=>List.flatMap g ts) (funext fun b=>?_)
 show((bh b).length:Int)::bh b=_
 rw[bU]
section
variable{P:Program}{w:World}{K:PySem.W.Frag}{mg:Str→Option Value}{base:Heap}{au aD aj aH:Addr}{f:Addr}{fd:FuncData}
def KZ(K:PySem.W.Frag)(cRd cL cR cW:Addr):Sp:=fun vs H Q _=>∃(l r:Addr) (s:Sx03.St) (t:Nat) (S:Sh) (k:Nat) (ts:List (List Nat)),vs=[.ref l,.ref r]∧nJ K cRd cL cR cW H l r s t S ((k:Int)::(ts.length:Int)::enc (ts.map bh))∧ts.length≤100∧s.dims≠[]∧Done cL cR cW H l r s t S (.word k ts) Q
theorem K4(F:Fun K "call_word" "call_word" uV f fd)(T:Txt K mg aD aK aH au aj)(aN:GM P w K mg base au "take" 2 ["self"] (gD K au))(bQ:GM P w K mg base au "take_lists" 4 ["self"] (lH K au))(bN:GM P w K mg base aj "has_group" 1 ["self","group"] (nH aj aD aH))(fL:GF P w K mg base "are_stems" 1 ["stems"] (yO))(sH:GC P w K mg base "Word" aH 1 ["self","group","stems"] (yN aH))(rZ:GF P w K mg base "keep" 1 ["kept","thing","most"] (z9)):bJ P w K mg base CX0 5 f fd ["language","told"] (KZ K au aj aD aH):=by
 refine F.ok rG (fun vs H Q E h=>?_) (fun cdv A outer s H vs Q E hr h=>?_)
 ·obtain⟨l,r,s,t,S,k,ts,rfl,_⟩:=h
  rfl
 ·obtain⟨l,r,s0,t,S,k,ts,rfl,I,ht,hd,D⟩:=h
  obtain⟨a,ns,hR⟩:=I.rd
  have st:Sx03.step s0 (.word k ts)=if s0.classes.length≤k then(s0,Sx03.ok (-2)) else if Sx03.stemsOk ts=false then(s0,Sx03.ok (-1)) else if 64≤s0.words.length then(s0,Sx03.ok (-5)) else({s0 with words:=s0.words++[⟨k,ts,[]⟩]},Sx03.ok (s0.words.length:Nat)):=by
   show(if s0.dims=[] then _ else _)=_
   rw[if_neg hd]
   rfl
  refine⟨_,(aB (aX (i:=2) rG.nd rfl (by first|exact Or.inl rfl|exact Or.inr rfl) (bf (pv 1) aN (hr.mono (by decide))))
   (aB (aX (i:=3) rG.nd rfl (by first|exact Or.inl rfl|exact Or.inr rfl) (bf (pv 1) bQ (hr.mono (by decide))))
   (aB (bI (gM (fM (jc (pv 0) bN (hr.mono (by decide)) (ak (pv 2) aC)))) (aF (aP (bG (ak (bW T.fK) aC)))) aZ)
   (aB (bI (gM (fM (aQ fL (hr.mono (by decide)) (ak (pv 3) aC)))) (aF (aP (bG (ak (bW T.cX) aC)))) aZ)
   (aF (aP (aQ rZ (hr.mono (by decide)) (ak (aW (pv 0) rfl) (ak (jd sH (hr.mono (by decide)) (ak (pv 2) (ak (pv 3) aC))) (ak (bW T.rQ) aC)))))))))),?_⟩
  obtain⟨dx0,p0,h0⟩:=hR.at
  refine⟨_,rfl,r,_,_,rfl,h0,dN,r,a,ns,(k:Int),_,rfl,hR,fun H1 k1 hR1=>?_⟩
  obtain⟨dx1,p1,h1⟩:=hR1.at
  refine⟨_,rfl,r,_,_,rfl,h1,pK,r,a,ns,ts.map bh,[],rfl,by rw[List.length_map];omega,(by rw[List.length_map,List.append_nil];exact hR1),fun H2 sa as k2 hR2 hs0 hs2 has hA=>?_⟩
  have k02:=k1.trans k2
  have L2:=I.lat.keep k02 (yP I.out)
  have f2: ∀{b:Addr},H1 b=none→H b=none:=fun{b} hb=>hR1.free k1 hb
  refine⟨_,rfl,l,_,_,rfl,L2.lang,rR,_,rfl,l,s0,t,S,(k:Int),rfl,L2,fun H3 hH3=>⟨_,rfl,?_⟩⟩
  have k03:=k02.trans (aL.same hH3)
  have L3:=L2.same hH3
  have hR3:=hR2.same hH3
  by_cases hg:0≤(k:Int)∧(k:Int)<(s0.classes.length:Int)
  ·rw[decide_eq_true hg]
   rw[if_neg (show¬s0.classes.length≤k by omega)] at st
   refine cA ?_
   refine⟨_,rfl,sa,as,ts,rfl,hH3 _ _ hs2,hA.mono fun a _ o e=>hH3 a o e,fun H4 hH4=>⟨_,rfl,?_⟩⟩
   have k04:=k03.trans (aL.same hH4)
   have L4:=L3.same hH4
   have hR4:=hR3.same hH4
   cases hs:Sx03.stemsOk ts with
   |false=>
    rw[hs,if_pos rfl] at st
    exact cB ⟨by show 1≤sizeLine;decide,fun q hq=>D.refuse st k04 hR4.ne L4 hq⟩
   |true=>
    rw[hs,if_neg (by decide)] at st
    refine cA ?_
    refine⟨_,rfl,l,_,_,_,_,rfl,L4.lang,T.aR,T.cu,jU,_,rfl,_,rfl,fun x dx hx hdx ndx=>⟨x,dx,sa,_,rfl,aA,fun H5 d e1 e2 e3 k5=>⟨rfl,?_⟩⟩⟩
    have sm:=jB (C:=aH) hx hdx ndx
    have s45:Same H4 H5:=fun b o e=>k5 b o (sm b o e) (by simpa using aG e hx)
    have k05:=k04.trans (aL.same s45)
    have L5:=L4.same s45
    have hR5:=hR4.same s45
    have fx:H x=none:=hR4.free k04 hx
    have fd0:H4 d=none:=sm.free e3
    have fd:H d=none:=hR4.free k04 fd0
    refine⟨S.wa,_,.ref x,64,rfl,L5.words,by decide,fun hm H6 q hH6 hq0 hq=>?_,fun hm H6 q k6 hp6 hq0 hq=>?_⟩
    ·rw[List.length_map,I.lat.tG] at hm
     rw[if_pos hm] at st
     exact D.tell st (k05.trans (aL.same hH6)) (L5.same hH6) (hR5.free k05 hq0) hq
    ·rw[List.length_map,I.lat.tG] at hm hq
     rw[if_neg (by omega)] at st
     have e:S.was.map V.ref++[V.ref x]=(S.was++[x]).map V.ref:=by rw[List.map_append];rfl
     rw[e] at hp6
     have fr: ∀{b:Addr} {o:HO},H b=none→H5 b=some o→b≠d→freeze S.F H H5 [d] b=some o:=fun{b o} f g n=>xu (iM f g) I.lat.sub (by simpa using n)
     have nsd:sa≠d:=aG (hH4 _ _ (hH3 _ _ hs2)) fd0
     have hsa5:H5 sa=some (.lst (as.map V.ref)):=s45 _ _ (hH4 _ _ (hH3 _ _ hs2))
     have hown: ∀b∈S.own l,freeze S.F H H5 [d] b=none:=fun b hb=>kI (I.lat.nf b hb) (I.lat.Ad hb)
     have odl:=I.lat.out fd
     have nwd:d≠S.wa:=fun e=>odl.1 (by rw[e];simp[Sh.own])
     have WA:Qz aH (freeze S.F H H5 [d]) H6 s0.dims x d ⟨k,ts,[]⟩ t:=by
      refine⟨dx,sa,as,[],fr fx e1 (d8 e1 e2 (fun q=>nomatch q)),fr (f2 hs0) hsa5 nsd,?_,k6 _ _ e2 (by simpa using nwd),fun c hc=>?_,Nat.zero_le _⟩
      ·refine⟨hA.1,fun j b xs hb hxs=>?_⟩
       have hb5:=s45 _ _ (hH4 _ _ (hH3 _ _ (hA.2 j b xs hb hxs)))
       exact fr (f2 (has b (List.mem_of_getElem? hb)).1) hb5 (d8 hb5 e2 (fun q=>nomatch q))
      ·exact True.intro
     have L6:=L5.WQ (x:=x) (d:=d) (wd:=⟨k,ts,[]⟩) (F':=freeze S.F H H5 [d]) k6 hp6 oH
      (xG (fun b o e=>k6 b o (L5.sub b o e) fun m=>by rw[List.mem_singleton.mp m,L5.nf _ (by simp[Sh.own])] at e;cases e)
       (fun b o e _=>k6 b o (dO e).2 fun m=>by rw[List.mem_singleton.mp m] at e;exact I.lat.Ad (b:=S.wa) (by simp[Sh.own]) (dO e).1))
      hown odl.1 (Uk odl.2 (by simp)) WA
     refine D H6 {S with was:=S.was++[x],das:=S.das++[d],F:=freeze S.F H H5 [d]} q (by rw[st];exact L6.later (Nat.le_succ t)) ?_ ?_ (hR5.free k05 hq0) (by rw[st];exact hq)
     ·intro b ho hb
      refine⟨fun m=>?_,kI ho.2 hb⟩
      have m:b∈S.own l++[d]:=m
      rcases List.mem_append.mp m with m|m
      ·exact ho.1 m
      ·rw[List.mem_singleton.mp m] at hb;exact hb fd
     ·exact(k05.mono (l':=r::S.own l) (by simp)).trans (k6.mono (by simp[Sh.own]))
  ·rw[decide_eq_false hg]
   rw[if_pos (show s0.classes.length≤k by omega)] at st
   exact cB ⟨by show 1≤sizeLine;decide,fun q hq=>D.refuse st k03 hR3.ne L3 hq⟩
def Uq(s:Sx03.St)(n:Nat)(c:List Nat):V:=match s.words[n]? with
 |none=> .int (-2)
 |some _=>if Sx03.isCell s.dims c=false then .int (-1) else .non
def nM(K:PySem.W.Frag)(cL cR cW:Addr):Sp:=fun vs H Q _=>∃(l b:Addr) (s:Sx03.St) (t:Nat) (S:Sh) (n:Nat) (c:List Nat),vs=[.ref l,.int (n:Nat),.ref b]∧LAt cL cR cW H l s t S∧SqL K H b (nv c)∧∀H',Same H H'→Q (Uq s n c) H'
theorem Fy(F:Fun K "refuse_cell" "refuse_cell" oZ f fd)(T:Txt K mg aD aK aH au aj)(bR:GM P w K mg base aj "has_word" 1 ["self","word"] (qw aj aD aH))(mU:GF P w K mg base "is_cell" 2 ["sizes","values"] (Kf K)):bJ P w K mg base CX0 3 f fd ["language","word","values"] (nM K aj aD aH):=by
 refine F.ok Er (fun vs H Q E h=>?_) (fun cdv A outer s H vs Q E hr h=>?_)
 ·obtain⟨l,b,s,t,S,n,c,rfl,_⟩:=h
  rfl
 ·obtain⟨l,b,s0,t,S,n,c,rfl,L,hB,k⟩:=h
  refine⟨_,(aB (bI (gM (fM (jc (pv 0) bR (hr.mono (by decide)) (ak (pv 1) aC)))) (aF (aP (bW T.fK))) aZ)
   (aB (bI (gM (fM (aQ mU (hr.mono (by decide)) (ak (aW (pv 0) rfl) (ak (pv 2) aC))))) (aF (aP (bW T.cX))) aZ)
   (aF (aP dW)))),?_⟩
  refine⟨_,rfl,l,_,_,rfl,L.lang,uZ,_,rfl,l,s0,t,S,(n:Int),rfl,L,fun H1 hH1=>⟨_,rfl,?_⟩⟩
  unfold Uq at k
  cases hw:s0.words[n]? with
  |none=>
   have hn:=List.getElem?_eq_none_iff.mp hw
   rw[decide_eq_false (show¬(0≤(n:Int)∧(n:Int)<(s0.words.length:Int)) by omega)]
   rw[hw] at k
   exact cB (k H1 hH1)
  |some wd=>
   have hn:=(List.getElem?_eq_some_iff.mp hw).1
   rw[decide_eq_true (show(0≤(n:Int)∧(n:Int)<(s0.words.length:Int)) by omega)]
   rw[hw] at k
   have L1:=L.same hH1
   refine cA ⟨_,rfl,l,_,_,_,_,rfl,L1.lang,T.aR,T.bM,iu,_,rfl,S.za,b,s0.dims,c,rfl,SqL.of (L1.sub _ _ L1.sizes),hH1.seq hB,fun H2 hH2=>⟨_,rfl,?_⟩⟩
   cases hc:Sx03.isCell s0.dims c with
   |false=>
    rw[hc] at k
    exact cB (k H2 (hH1.trans hH2))
   |true=>
    rw[hc] at k
    exact cA (k H2 (hH1.trans hH2))
def R7(K:PySem.W.Frag)(cRd cL cR cW:Addr):Sp:=fun vs H Q _=>∃(l r:Addr) (s:Sx03.St) (t:Nat) (S:Sh) (n:Nat) (c:List Nat) (b:Option (List Nat)),vs=[.ref l,.ref r]∧nJ K cRd cL cR cW H l r s t S ((n:Int)::(c.length:Int)::(bh c++Kv b))∧s.dims≠[]∧Done cL cR cW H l r s t S (.odd n c b) Q
theorem Oc(F:Fun K "call_odd" "call_odd" wW f fd)(T:Txt K mg aD aK aH au aj)(aN:GM P w K mg base au "take" 2 ["self"] (gD K au))(aM:GM P w K mg base au "take_list" 3 ["self"] (cQ K au))(lX:GF P w K mg base "read_odd_form" 4 ["told"] (Aa K au))(cD:GF P w K mg base "refuse_cell" 3 ["language","word","values"] (nM K aj aD aH))(pP:GF P w K mg base "is_odd_form" 1 ["form"] (CP K))(bH:GF P w K mg base "number_cell" 1 ["sizes","values"] (jT K)):bJ P w K mg base CX0 5 f fd ["language","told"] (R7 K au aj aD aH):=by
 refine F.ok jz (fun vs H Q E h=>?_) (fun cdv A outer s H vs Q E hr h=>?_)
 ·obtain⟨l,r,s,t,S,n,c,b,rfl,_⟩:=h
  rfl
 ·obtain⟨l,r,s0,t,S,n,c,b,rfl,I,hd,D⟩:=h
  obtain⟨a,ns,hR⟩:=I.rd
  have hu:=Nb hr
  have st:Sx03.step s0 (.odd n c b)=(match s0.words[n]? with
   |none=>(s0,Sx03.ok (-2))
   |some x=>if(Sx03.isCell s0.dims c&&(b.all fun z=>decide (z.length≤64)))=false then(s0,Sx03.ok (-1)) else(s0.setWord n {x with odd:=(x.odd.filter fun y=>y.1 != c)++[(c,b)]},Sx03.ok 0)):=by
   show(if s0.dims=[] then _ else _)=_
   rw[if_neg hd]
   rfl
  refine⟨_,(aB (aX (i:=2) jz.nd rfl (by first|exact Or.inl rfl|exact Or.inr rfl) (bf (pv 1) aN (hr.mono (by decide))))
   (aB (aX (i:=3) jz.nd rfl (by first|exact Or.inl rfl|exact Or.inr rfl) (bf (pv 1) aM (hr.mono (by decide))))
   (aB (aX (i:=4) jz.nd rfl (by first|exact Or.inl rfl|exact Or.inr rfl) (aQ lX (hr.mono (by decide)) (ak (pv 1) aC)))
   (aB (aX (i:=5) jz.nd rfl (by first|exact Or.inl rfl|exact Or.inr rfl) (aQ cD (hr.mono (by decide)) (ak (pv 0) (ak (pv 2) (ak (pv 3) aC)))))
   (aB (bI (aY mD (pv 5) dW (bx _)) (aF (aP (bG (ak (pv 5) aC)))) aZ)
   (aB (bI (gM (fM (aQ pP (hr.mono (by decide)) (ak (pv 4) aC)))) (aF (aP (bG (ak (bW T.cX) aC)))) aZ)
   (aB (aX (i:=6) jz.nd rfl (by first|exact Or.inl rfl|exact Or.inr rfl) (cJ bK (aW (pv 0) rfl) (pv 2) (fun _ _=>rfl)))
   (aB (RK hu (aW (pv 6) rfl) (aQ bH (hr.mono (by decide)) (ak (aW (pv 0) rfl) (ak (pv 3) aC))) (pv 4) rfl)
   (aF (aP (bG (ak bB aC)))))))))))),?_⟩
  obtain⟨dx0,p0,h0⟩:=hR.at
  refine⟨_,rfl,r,_,_,rfl,h0,dN,r,a,ns,(n:Int),_,rfl,hR,fun H1 k1 hR1=>?_⟩
  obtain⟨dx1,p1,h1⟩:=hR1.at
  refine⟨_,rfl,r,_,_,rfl,h1,cG,r,a,ns,bh c,Kv b,rfl,(by rw[bU];exact hR1),fun H2 ca k2 hR2 hc0 hc2=>?_⟩
  have k02:=k1.trans k2
  have hc0':H ca=none:=hR1.free k1 hc0
  have ncr:ca≠r:=fun e=>hR.ne (by rw[←e];exact hc0')
  have rest: ∀(H3:Hp) (v:V),aL [r] H H3→gG K au H3 r a ns []→H3 ca=some (.lst (nv c))→(b=none→v= .non)→(∀z,b=some z→∃fa,v= .ref fa∧newH H H3 fa=some (.lst (nv z)))→
    BR (Vf (HX (nM K aj aD aH) [] E0 (gQ (gW 0) (gQ (gW 2) (gQ (gW 3) lC)))) (wk 5)) (BR (SN (Vl (tOp (fun x y H Q=>y= .non∧Q (.bl (!decide (x= .non))) H) (gW 5) (tC .non))) (Dk (Xq (gQ (gW 5) lC))) HS)
     (BR (SN (Xi (tB (HX (CP K) [] E0 (gQ (gW 4) lC)))) (Dk (Xq (gQ (tC (.int (-1))) lC))) HS)
     (BR (Vf (tOp (Zy K) (Ms K (gW 0) "words") (gW 2)) (wk 6)) (BR (YQ (Ms K (gW 6) "odd_forms") (HX (jT K) [] E0 (gQ (Ms K (gW 0) "sizes") (gQ (gW 3) lC))) (gW 4)) (Dk (Xq (gQ (tC (.int 0)) lC)))))))
     {nx:=fun _ H'=>Q .non H',rt:=Q} [some (.ref l),some (.ref r),some (.int (n:Int)),some (.ref ca),some v,none,none] H3:=by
   intro H3 v k03 hR3 hc3 hv1 hv2
   have L3:=I.lat.keep k03 (yP I.out)
   refine⟨_,rfl,_,rfl,_,rfl,l,ca,s0,t,S,n,c,rfl,L3,SqL.of hc3,fun H4 hH4=>?_⟩
   have k04:=k03.trans (aL.same hH4)
   have L4:=L3.same hH4
   have hR4:=hR3.same hH4
   refine⟨_,rfl,rfl,_,rfl,?_⟩
   unfold Uq
   cases hw:s0.words[n]? with
   |none=>
    rw[hw] at st
    exact cB ⟨_,rfl,(by show 1≤sizeLine;decide),fun q hq=>D.refuse st k04 hR4.ne L4 hq⟩
   |some wd=>
    rw[hw] at st
    have st:Sx03.step s0 (.odd n c b)=if(Sx03.isCell s0.dims c&&(b.all fun z=>decide (z.length≤64)))=false then(s0,Sx03.ok (-1)) else(s0.setWord n {wd with odd:=(wd.odd.filter fun y=>y.1 != c)++[(c,b)]},Sx03.ok 0):=st
    cases hc:Sx03.isCell s0.dims c with
    |false=>
     rw[hc,Bool.false_and,if_pos rfl] at st
     exact cB ⟨_,rfl,(by show 1≤sizeLine;decide),fun q hq=>D.refuse st k04 hR4.ne L4 hq⟩
    |true=>
     rw[hc,Bool.true_and] at st
     refine cA ⟨_,rfl,v,b,rfl,hv1,fun z hz=>?_,fun H5 hH5=>⟨_,rfl,?_⟩⟩
     ·obtain⟨fa,e1,e2⟩:=hv2 z hz
      exact⟨fa,e1,SqL.of (hH4 _ _ (dO e2).2)⟩
     have k05:=k04.trans (aL.same hH5)
     have L5:=L4.same hH5
     have hR5:=hR4.same hH5
     cases hb:(b.all fun z=>decide (z.length≤64)) with
     |false=>
      rw[hb,if_pos rfl] at st
      exact cB ⟨(by show 1≤sizeLine;decide),fun q hq=>D.refuse st k05 hR5.ne L5 hq⟩
     |true=>
      rw[hb,if_neg (by decide)] at st
      obtain⟨wa,d,hwa,hda⟩:=L5.word hw
      obtain⟨dx,sa,as,kvs,q1,q2,q3,q4,q5,q6⟩:=(L5.wat n wa d wd hwa hda hw).ex
      refine cA ⟨_,rfl,l,_,_,_,_,rfl,L5.lang,T.aR,T.cu,jU,_,rfl,S.wa,_,_,.ref wa,rfl,rfl,SqL.of L5.words,JB (by rw[List.getElem?_map,hwa];rfl),?_⟩
      have hdm:=I.wf.dimsOk hd
      refine⟨_,rfl,_,rfl,wa,_,dx,_,_,rfl,L5.sub _ _ q1,T.iG,T.eG,jW,_,rfl,l,_,_,_,_,rfl,L5.lang,T.aR,T.bM,iu,_,rfl,S.za,ca,s0.dims,c,rfl,SqL.of (L5.sub _ _ L5.sizes),SqL.of (hH5 _ _ (hH4 _ _ hc3)),hc,Jh hdm,fun H6 hH6=>?_⟩
      have k06:=k05.trans (aL.same hH6)
      have L6:=L5.same hH6
      have hR6:=hR5.same hH6
      have few:=I.few
      refine⟨d,_,rfl,Te.k (k:=Sum.inl ((Fs.num s0.dims c:Nat):Int)) (hH6 _ _ q4) (Nat.lt_of_lt_of_le (show kvs.length<1000 by omega) (by decide)),(by show 1≤sizeLine;decide),fun q hq=>?_⟩
      obtain⟨nq,hq0⟩:=bw hq
      have k7:aL [d] H6 (upd (upd H6 d (.dK (putK kvs (Sum.inl ((Fs.num s0.dims c:Nat):Int)) v))) q (.lst [.int 0])):=(aL.upd (by simp)).trans (aL.same (Same.new hq))
      have md:d∈S.own l:=by simp[Sh.own,List.mem_of_getElem? hda]
      have hown: ∀b∈S.own l,freeze S.F H H6 [] b=none:=fun b hb=>kI (I.lat.nf b hb) (I.lat.Ad hb)
      have L7:=L6.WR (F':=freeze S.F H H6 []) (odd:=(wd.odd.filter fun y=>y.1 != c)++[(c,b)]) hwa hda hw k7 (by rw[aJ (Ne.symm nq),aA]) oH
       (xG (fun b o e=>k7 b o (L6.sub b o e) fun m=>by rw[List.mem_singleton.mp m,L6.nf _ md] at e;cases e)
        (fun b o e _=>k7 b o (dO e).2 fun m=>by rw[List.mem_singleton.mp m] at e;exact I.lat.Ad md (dO e).1))
       hown ?_ (by have:=n8 kvs (Sum.inl ((Fs.num s0.dims c:Nat):Int)) v;omega)
      ·refine D _ {S with F:=freeze S.F H H6 []} q (by rw[st];exact L7) (fun b ho hb=>⟨ho.1,kI ho.2 hb⟩) ?_ (hR6.free k06 hq0) (by rw[st,aA];rfl)
       exact(k06.mono (l':=r::S.own l) (by simp)).trans (k7.mono (by intro b hb;rw[List.mem_singleton.mp hb];exact List.mem_cons_of_mem _ md))
      ·intro e he
       have q7:=(q5 e he).mono (oH (F:=S.F) (H:=H) (H':=H6) (ex:=[]))
       rw[M4]
       show Km _ _ (Fs.gF ((wd.odd.filter fun y=>y.1 != c)++[(c,b)]) e)
       rw[Fs.T5]
       by_cases ec:e=c
       ·subst ec
        rw[if_pos rfl,if_pos rfl]
        cases b with
        |none=>exact hv1 rfl
        |some z=>
         obtain⟨fa,e1,e2⟩:=hv2 z rfl
         exact⟨fa,e1,xu ((Ac ((hH4.trans hH5).trans hH6)) _ _ e2) I.lat.sub (by simp)⟩
       ·rw[if_neg ec,if_neg (fun q=>ec (Fs.CG he hc (by injection q with q;omega)))]
        exact q7
  refine⟨_,rfl,r,a,ns,b,[],rfl,(by rw[List.append_nil];exact hR2),fun e H3 k3 hR3=>?_,fun z e H3 fa k3 hR3 hf0 hf3=>?_⟩
  ·exact rest H3 .non (k02.trans k3) hR3 (k3 _ _ hc2 (by simpa using ncr)) (fun _=>rfl) (fun z hz=>by rw[e] at hz;cases hz)
  ·exact rest H3 (.ref fa) (k02.trans k3) hR3 (k3 _ _ hc2 (by simpa using ncr)) (fun e'=>by rw[e] at e';cases e') (fun z' hz=>by
    rw[e] at hz
    cases hz
    exact⟨fa,rfl,iM (hR2.free k02 hf0) hf3⟩)
def CV(K:PySem.W.Frag)(cRd cL cR cW:Addr):Sp:=fun vs H Q _=>∃(l r:Addr) (s:Sx03.St) (t:Nat) (S:Sh) (n:Nat) (c:List Nat),vs=[.ref l,.ref r]∧nJ K cRd cL cR cW H l r s t S ((n:Int)::(c.length:Int)::bh c)∧s.dims≠[]∧Done cL cR cW H l r s t S (.plain n c) Q
theorem Hq(F:Fun K "call_plain" "call_plain" rH f fd)(T:Txt K mg aD aK aH au aj)(aN:GM P w K mg base au "take" 2 ["self"] (gD K au))(aM:GM P w K mg base au "take_list" 3 ["self"] (cQ K au))(cD:GF P w K mg base "refuse_cell" 3 ["language","word","values"] (nM K aj aD aH))(bH:GF P w K mg base "number_cell" 1 ["sizes","values"] (jT K)):bJ P w K mg base CX0 4 f fd ["language","told"] (CV K au aj aD aH):=by
 refine F.ok gK (fun vs H Q E h=>?_) (fun cdv A outer s H vs Q E hr h=>?_)
 ·obtain⟨l,r,s,t,S,n,c,rfl,_⟩:=h
  rfl
 ·obtain⟨l,r,s0,t,S,n,c,rfl,I,hd,D⟩:=h
  obtain⟨a,ns,hR⟩:=I.rd
  have hu:=Nb hr
  have st:Sx03.step s0 (.plain n c)=(match s0.words[n]? with
   |none=>(s0,Sx03.ok (-2))
   |some x=>if Sx03.isCell s0.dims c=false then(s0,Sx03.ok (-1)) else if(x.odd.any fun y=>y.1==c)=false then(s0,Sx03.ok (-3)) else(s0.setWord n {x with odd:=x.odd.filter fun y=>y.1 != c},Sx03.ok 0)):=by
   show(if s0.dims=[] then _ else _)=_
   rw[if_neg hd]
   rfl
  refine⟨_,(aB (aX (i:=2) gK.nd rfl (by first|exact Or.inl rfl|exact Or.inr rfl) (bf (pv 1) aN (hr.mono (by decide))))
   (aB (aX (i:=3) gK.nd rfl (by first|exact Or.inl rfl|exact Or.inr rfl) (bf (pv 1) aM (hr.mono (by decide))))
   (aB (aX (i:=4) gK.nd rfl (by first|exact Or.inl rfl|exact Or.inr rfl) (aQ cD (hr.mono (by decide)) (ak (pv 0) (ak (pv 2) (ak (pv 3) aC)))))
   (aB (bI (aY mD (pv 4) dW (bx _)) (aF (aP (bG (ak (pv 4) aC)))) aZ)
   (aB (aX (i:=5) gK.nd rfl (by first|exact Or.inl rfl|exact Or.inr rfl) (cJ bK (aW (pv 0) rfl) (pv 2) (fun _ _=>rfl)))
   (aB (aX (i:=6) gK.nd rfl (by first|exact Or.inl rfl|exact Or.inr rfl) (aQ bH (hr.mono (by decide)) (ak (aW (pv 0) rfl) (ak (pv 3) aC))))
   (aB (bI (Vb (Ij hu (pv 6) (aW (pv 5) rfl))) (aF (aP (bG (ak (bW T.zZ) aC)))) aZ)
   (aB (dj (VF (aW (pv 5) rfl) (pv 6) ⟨rfl,rfl,rfl,rfl⟩))
   (aF (aP (bG (ak bB aC)))))))))))),?_⟩
  obtain⟨dx0,p0,h0⟩:=hR.at
  refine⟨_,rfl,r,_,_,rfl,h0,dN,r,a,ns,(n:Int),_,rfl,hR,fun H1 k1 hR1=>?_⟩
  obtain⟨dx1,p1,h1⟩:=hR1.at
  refine⟨_,rfl,r,_,_,rfl,h1,cG,r,a,ns,bh c,[],rfl,(by rw[bU,List.append_nil];exact hR1),fun H3 ca k3 hR3 hc0 hc3=>?_⟩
  have k03:=k1.trans k3
  have L3:=I.lat.keep k03 (yP I.out)
  refine⟨_,rfl,_,rfl,_,rfl,l,ca,s0,t,S,n,c,rfl,L3,SqL.of hc3,fun H4 hH4=>?_⟩
  have k04:=k03.trans (aL.same hH4)
  have L4:=L3.same hH4
  have hR4:=hR3.same hH4
  refine⟨_,rfl,rfl,_,rfl,?_⟩
  unfold Uq
  cases hw:s0.words[n]? with
  |none=>
   rw[hw] at st
   exact cB ⟨_,rfl,(by show 1≤sizeLine;decide),fun q hq=>D.refuse st k04 hR4.ne L4 hq⟩
  |some wd=>
   rw[hw] at st
   have st:Sx03.step s0 (.plain n c)=if Sx03.isCell s0.dims c=false then(s0,Sx03.ok (-1)) else if(wd.odd.any fun y=>y.1==c)=false then(s0,Sx03.ok (-3)) else(s0.setWord n {wd with odd:=wd.odd.filter fun y=>y.1 != c},Sx03.ok 0):=st
   cases hc:Sx03.isCell s0.dims c with
   |false=>
    rw[hc,if_pos rfl] at st
    exact cB ⟨_,rfl,(by show 1≤sizeLine;decide),fun q hq=>D.refuse st k04 hR4.ne L4 hq⟩
   |true=>
    rw[hc,if_neg (by decide)] at st
    obtain⟨wa,d,hwa,hda⟩:=L4.word hw
    obtain⟨dx,sa,as,kvs,q1,q2,q3,q4,q5,q6⟩:=(L4.wat n wa d wd hwa hda hw).ex
    refine cA ⟨_,rfl,l,_,_,_,_,rfl,L4.lang,T.aR,T.cu,jU,_,rfl,S.wa,_,_,.ref wa,rfl,rfl,SqL.of L4.words,JB (by rw[List.getElem?_map,hwa];rfl),?_⟩
    have hdm:=I.wf.dimsOk hd
    refine⟨_,rfl,l,_,_,_,_,rfl,L4.lang,T.aR,T.bM,iu,_,rfl,S.za,ca,s0.dims,c,rfl,SqL.of (L4.sub _ _ L4.sizes),SqL.of (hH4 _ _ hc3),hc,Jh hdm,fun H5 hH5=>?_⟩
    have k05:=k04.trans (aL.same hH5)
    have L5:=L4.same hH5
    have hR5:=hR4.same hH5
    have hk:=q5 c hc
    have q4':=hH5 _ _ q4
    refine⟨_,rfl,_,rfl,wa,_,dx,_,_,rfl,L5.sub _ _ q1,T.iG,T.eG,jW,d,_,rfl,DG.k (k:=Sum.inl ((Fs.num s0.dims c:Nat):Int)) q4',_,rfl,?_⟩
    rw[Fs.RQ] at st
    unfold Fs.gF at st
    cases hv:jC kvs (Sum.inl ((Fs.num s0.dims c:Nat):Int)) with
    |none=>
     rw[hv] at hk
     cases ho:(wd.odd.find? fun x=>x.1==c) with
     |none=>
      rw[ho,if_pos (show(none:Option (Sx03.Cell×Option Sx03.Bytes)).isSome=false from rfl)] at st
      exact cB ⟨(by show 1≤sizeLine;decide),fun q hq=>D.refuse st k05 hR5.ne L5 hq⟩
     |some y=>rw[ho] at hk;exact hk.elim
    |some v=>
     rw[hv] at hk
     cases ho:(wd.odd.find? fun x=>x.1==c) with
     |none=>rw[ho] at hk;exact hk.elim
     |some y=>
      rw[ho,if_neg (show¬(some y).isSome=false by simp)] at st
      refine cA ?_
      refine⟨_,rfl,wa,_,dx,_,_,rfl,L5.sub _ _ q1,T.iG,T.eG,jW,d,rfl,.inl ⟨_,.inl q4'⟩,_,rfl,_,Sum.inl ((Fs.num s0.dims c:Nat):Int),v,q4',rfl,hv,(by show 1≤sizeLine;decide),fun q hq=>?_⟩
      obtain⟨nq,hq0⟩:=bw hq
      have k7:aL [d] H5 (upd (upd H5 d (.dK (n6 kvs (Sum.inl ((Fs.num s0.dims c:Nat):Int))))) q (.lst [.int 0])):=(aL.upd (by simp)).trans (aL.same (Same.new hq))
      have md:d∈S.own l:=by simp[Sh.own,List.mem_of_getElem? hda]
      have L7:=L5.WR (F':=S.F) (odd:=wd.odd.filter fun y=>y.1 != c) hwa hda hw k7 (by rw[aJ (Ne.symm nq),aA]) (Same.refl _)
       (fun b o e=>k7 b o (L5.sub b o e) fun m=>by rw[List.mem_singleton.mp m,L5.nf _ md] at e;cases e) L5.nf ?_
       (by have:(n6 kvs (Sum.inl ((Fs.num s0.dims c:Nat):Int))).length≤kvs.length:=List.length_filter_le _ _;omega)
      ·refine D _ {S with F:=S.F} q (by rw[st];exact L7) (fun b ho _=>ho) ?_ (hR5.free k05 hq0) (by rw[st,aA];rfl)
       exact(k05.mono (l':=r::S.own l) (by simp)).trans (k7.mono (by intro b hb;rw[List.mem_singleton.mp hb];exact List.mem_cons_of_mem _ md))
      ·intro e he
       rw[Ji]
       show Km _ _ (Fs.gF (wd.odd.filter fun y=>y.1 != c) e)
       rw[Fs.wN]
       by_cases ec:e=c
       ·subst ec
        rw[if_pos rfl,if_pos rfl]
        exact True.intro
       ·rw[if_neg ec,if_neg (fun q=>ec (Fs.CG he hc (by injection q with q;omega)))]
        exact q5 e he
end
end Ft
namespace Fs
open Sx03
theorem sI: ∀{p q:List Nat},p.length=q.length→(lx p q↔∃(d a b:Nat),p.take d=q.take d∧p[d]?=some a∧q[d]?=some b∧a<b)
 |[],[],_=>⟨fun h=>h.elim,fun⟨d,a,b,_,h,_⟩=>by simp at h⟩
 |x::p,y::q,hl=>by
  have hm:p.length=q.length:=by simpa using hl
  constructor
  ·rintro(h|⟨rfl,h⟩)
   ·exact⟨0,x,y,rfl,rfl,rfl,h⟩
   ·obtain⟨d,a,b,h1,h2,h3,h4⟩:=(sI hm).mp h
    exact⟨d+1,a,b,by rw[List.take_succ_cons,List.take_succ_cons,h1],h2,h3,h4⟩
  ·rintro⟨d,a,b,h1,h2,h3,h4⟩
   cases d with
   |zero=>
    have e1:x=a:=Option.some.inj h2
    have e2:y=b:=Option.some.inj h3
    exact .inl (by omega)
   |succ d=>
    rw[List.take_succ_cons,List.take_succ_cons] at h1
    injection h1 with e1 e2
    exact .inr ⟨e1,(sI hm).mpr ⟨d,a,b,e2,h2,h3,h4⟩⟩
theorem QJ: ∀{p q:List Nat},p.length=q.length→p=q∨lx p q∨lx q p
 |[],[],_=> .inl rfl
 |x::p,y::q,hl=>by
  have hm:p.length=q.length:=by simpa using hl
  by_cases e:x=y
  ·subst e
   rcases QJ hm with h|h|h
   ·exact .inl (by rw[h])
   ·exact .inr (.inl (.inr ⟨rfl,h⟩))
   ·exact .inr (.inr (.inr ⟨rfl,h⟩))
  ·by_cases c:x<y
   ·exact .inr (.inl (.inl c))
   ·exact .inr (.inr (.inl (by omega)))
theorem Fz: ∀{p q:List Nat},lx p q→lx q p→False
 |[],_,h,_=>h
 |_::_,[],h,_=>h
 |x::p,y::q,h,h'=>by
  rcases h with h|⟨e,h⟩
  ·rcases h' with h'|⟨e',h'⟩<;>omega
  ·rcases h' with h'|⟨e',h'⟩
   ·omega
   ·exact Fz h h'
theorem R8{p:List Nat}(h:p.Pairwise (· < ·)): ∀(i j a b:Nat),i≤j→p[i]?=some a→p[j]?=some b→a+(j - i)≤b:=by
 intro i j a b hij ha hb
 obtain⟨d,rfl⟩: ∃d,j=i+d:=⟨j - i,by omega⟩
 induction d generalizing b with
 |zero=>
  rw[Nat.add_zero,ha] at hb
  have:=Option.some.inj hb
  omega
 |succ d ih=>
  have hl:=(List.getElem?_eq_some_iff.mp hb).1
  have h1:p[i+d]?=some (p[i+d]'(by omega)):=List.getElem?_eq_getElem _
  have q:=ih _ (by omega) h1
  have q2:=List.pairwise_iff_getElem.mp h (i+d) (i+(d+1)) (by omega) hl (by omega)
  have e:=(List.getElem?_eq_some_iff.mp hb).2
  omega
theorem vm{n:Nat}{p:List Nat}(h:Pick n p){j b:Nat}(hb:p[j]?=some b):b+p.length≤n+j:=by
 have hl:=(List.getElem?_eq_some_iff.mp hb).1
 have h1:p[p.length - 1]?=some (p[p.length - 1]'(by omega)):=List.getElem?_eq_getElem _
 have q:=R8 h.up j (p.length - 1) b _ (by omega) hb h1
 have q2:=h.lt _ (List.getElem_mem (l:=p) (n:=p.length - 1) (by omega))
 omega
theorem Od{n:Nat}{p:List Nat}(h:Pick n p){j b:Nat}(hb:p[j]?=some b):j≤b:=by
 have hl:=(List.getElem?_eq_some_iff.mp hb).1
 have h1:p[0]?=some (p[0]'(by omega)):=List.getElem?_eq_getElem _
 have q:=R8 h.up 0 j _ b (by omega) h1 hb
 omega
theorem Oe{n:Nat}{p:List Nat}(h:Pick n p):p.length≤n:=by
 cases e:p.length with
 |zero=>omega
 |succ m=>
  have h1:p[m]?=some (p[m]'(by omega)):=List.getElem?_eq_getElem _
  have:=vm h h1
  have:=Od h h1
  omega
def yQ(n:Nat)(p:List Nat)(i:Nat):Prop:=∀(j b:Nat),i≤j→p[j]?=some b→b+p.length=n+j
def iw(p:List Nat)(i v:Nat):List Nat:=p.take i++List.range' (v+1) (p.length - i)
theorem Ur{n:Nat}{p:List Nat}(h:Pick n p)(ht:yQ n p 0){q:List Nat}(hq:Pick n q)(hl:q.length=p.length): ¬lx p q:=by
 intro hx
 obtain⟨d,a,b,h1,h2,h3,h4⟩:=(sI hl.symm).mp hx
 have e1:=ht d a (Nat.zero_le _) h2
 have e2:=vm hq h3
 omega
section
variable{n:Nat}{p:List Nat}{i v:Nat}(h:Pick n p)(hv:p[i]?=some v)(hn:v+p.length≠n+i)(ht:yQ n p (i+1))
include h hv
theorem FJ:(iw p i v).length=p.length:=by
 have hl:=(List.getElem?_eq_some_iff.mp hv).1
 unfold iw
 rw[List.length_append,List.length_take,List.length_range']
 omega
theorem R9{j:Nat}(hj:j<i):(iw p i v)[j]?=p[j]?:=by
 have hl:=(List.getElem?_eq_some_iff.mp hv).1
 unfold iw
 rw[List.getElem?_append_left (by rw[List.length_take];omega),List.getElem?_take_of_lt hj]
theorem K5{j:Nat}(hj:i≤j)(hjl:j<p.length):(iw p i v)[j]?=some (v+1+(j - i)):=by
 have hl:=(List.getElem?_eq_some_iff.mp hv).1
 unfold iw
 rw[List.getElem?_append_right (by rw[List.length_take];omega),List.length_take,show min i p.length=i by omega,List.getElem?_range' (by omega)]
 simp
include hn in
theorem Us:Pick n (iw p i v):=by
 have hl:=(List.getElem?_eq_some_iff.mp hv).1
 have top:=vm h hv
 refine⟨?_,fun x hx=>?_⟩
 ·unfold iw
  refine List.pairwise_append.mpr ⟨h.up.sublist (List.take_sublist _ _),List.pairwise_lt_range',fun a ha b hb=>?_⟩
  obtain⟨j,hj⟩:=List.mem_iff_getElem?.mp ha
  have hji:j<i:=by
   have:=(List.getElem?_eq_some_iff.mp hj).1
   rw[List.length_take] at this
   omega
  rw[List.getElem?_take_of_lt hji] at hj
  have q:=R8 h.up j i a v (by omega) hj hv
  obtain⟨k,_,rfl⟩:=List.mem_range'.mp hb
  omega
 ·unfold iw at hx
  rcases List.mem_append.mp hx with hx|hx
  ·exact h.lt x ((List.take_sublist _ _).subset hx)
  ·obtain⟨k,hk,rfl⟩:=List.mem_range'.mp hx
   omega
theorem Yo:lx p (iw p i v):=by
 have hl:=(List.getElem?_eq_some_iff.mp hv).1
 refine(sI (FJ h hv).symm).mpr ⟨i,v,v+1,?_,hv,?_,by omega⟩
 ·unfold iw
  rw[List.take_append_of_le_length (by rw[List.length_take];omega),List.take_take,Nat.min_self]
 ·rw[K5 h hv (Nat.le_refl i) hl]
  simp
include ht in
theorem Yp{q:List Nat}(hq:Pick n q)(hl:q.length=p.length)(hx:lx q (iw p i v)):q=p∨lx q p:=by
 rcases QJ hl with e|e|e
 ·exact .inl e
 ·exact .inr e
 ·exfalso
  have hil:=(List.getElem?_eq_some_iff.mp hv).1
  have nl:=FJ h hv
  obtain⟨d,a,b,h1,h2,h3,h4⟩:=(sI hl.symm).mp e
  have hdl:=(List.getElem?_eq_some_iff.mp h2).1
  have tk: ∀m,m≤i→(iw p i v).take m=p.take m:=fun m hm=>by
   unfold iw
   rw[List.take_append_of_le_length (by rw[List.length_take];omega),List.take_take,Nat.min_eq_left hm]
  by_cases c1:i<d
  ·have e1:=ht d a (by omega) h2
   have e2:=vm hq h3
   omega
  ·by_cases c2:d<i
   ·refine Fz hx ((sI (by omega)).mpr ⟨d,a,b,?_,?_,h3,h4⟩)
    ·rw[tk d (by omega),h1]
    ·rw[R9 h hv c2];exact h2
   ·have ed:d=i:=by omega
    subst ed
    rw[hv] at h2
    have ea:v=a:=Option.some.inj h2
    by_cases c3:b=v+1
    ·
     obtain⟨d',a',b',g1,g2,g3,g4⟩:=(sI (by omega)).mp hx
     have hd'l:=(List.getElem?_eq_some_iff.mp g2).1
     by_cases c4:d'<d
     ·have q1:p[d']?=some b':=by rw[←R9 h hv c4];exact g3
      have q2:(p.take d)[d']?=(q.take d)[d']?:=by rw[h1]
      rw[List.getElem?_take_of_lt c4,List.getElem?_take_of_lt c4,q1,g2] at q2
      have:=Option.some.inj q2
      omega
     ·rw[K5 h hv (by omega) (by omega)] at g3
      have e3:v+1+(d' - d)=b':=Option.some.inj g3
      have e4:=R8 hq.up d d' b a' (by omega) h3 g2
      omega
    ·refine Fz hx ((sI (by omega)).mpr ⟨d,v+1,b,?_,?_,h3,by omega⟩)
     ·rw[tk d (Nat.le_refl d),h1]
     ·rw[K5 h hv (Nat.le_refl d) hil];simp
end
theorem FN{m n:Nat}(h:m≤n):Pick n (List.range m):=⟨yu m,fun x hx=>by have:=List.mem_range.mp hx;omega⟩
theorem Bw{n m:Nat}{q:List Nat}(hq:Pick n q)(hl:q.length=m): ¬lx q (List.range m):=fun hx=>by
 obtain⟨d,a,b,h1,h2,h3,h4⟩:=(sI (by rw[List.length_range];exact hl)).mp hx
 have e1:=Od hq h2
 have hd:=(List.getElem?_eq_some_iff.mp h3).1
 rw[List.length_range] at hd
 rw[List.getElem?_range hd] at h3
 have:=Option.some.inj h3
 omega
def bitsOf(l:List Nat):Nat:=l.foldl (fun a c=>a+2 ^ c) 0
theorem Ae(l:List Nat)(c:Nat):bitsOf (l++[c])=bitsOf l+2 ^ c:=by
 unfold bitsOf
 rw[List.foldl_append]
 rfl
theorem Og: ∀(l:List Nat),l.Pairwise (fun a b=>b<a)→(∀n,(∀c∈l,c<n)→bitsOf l.reverse<2 ^ n)∧∀i,(bitsOf l.reverse).testBit i=decide (i∈l)
 |[],_=>⟨fun n _=>by show 0<2 ^ n;exact Nat.two_pow_pos n,fun i=>by show(0:Nat).testBit i=_;simp⟩
 |c::l,h=>by
  obtain⟨h1,h2⟩:=List.pairwise_cons.mp h
  obtain⟨g1,g2⟩:=Og l h2
  have e:bitsOf (c::l).reverse=2 ^ c+bitsOf l.reverse:=by
   rw[List.reverse_cons,Ae]
   omega
  have lt:=g1 c h1
  refine⟨fun n hn=>?_,fun i=>?_⟩
  ·have hc:=hn c List.mem_cons_self
   have:2 ^ (c+1)≤2 ^ n:=Nat.pow_le_pow_right (by decide) hc
   rw[e]
   rw[Nat.pow_succ] at this
   omega
  ·have z:=Nat.two_pow_add_eq_or_of_lt lt 1
   rw[Nat.mul_one] at z
   rw[e,z,Nat.testBit_or,g2,Nat.testBit_two_pow]
   by_cases q:c=i
   ·subst q;simp
   ·have q': ¬i=c:=fun z=>q z.symm
    simp[q,q']
theorem qx{l:List Nat}(h:l.Pairwise (· < ·))(i:Nat):(bitsOf l).testBit i=decide (i∈l):=by
 have q:=(Og l.reverse (by rw[List.pairwise_reverse];exact h)).2 i
 rw[List.reverse_reverse] at q
 rw[q]
 simp
theorem and_zero{a b:Nat}:a&&& b=0↔∀i,¬(a.testBit i=true∧b.testBit i=true):=by
 constructor
 ·intro h i ⟨h1,h2⟩
  have:=congrArg (fun z=>z.testBit i) h
  simp[Nat.testBit_and,h1,h2] at this
 ·intro h
  apply Nat.eq_of_testBit_eq
  intro i
  rw[Nat.testBit_and]
  have:=h i
  cases h1:a.testBit i<;>cases h2:b.testBit i<;>simp_all
def dY(a b:List Got)(n:Nat):List Nat:=(List.range n).filter fun i=>a[i]? != b[i]?
theorem Oh(a b:List Got)(n:Nat):dY a b (n+1)=if a[n]?=b[n]? then dY a b n else dY a b n++[n]:=by
 unfold dY
 rw[List.range_succ,List.filter_append]
 by_cases q:a[n]?=b[n]?
 ·rw[if_pos q,List.filter_cons,if_neg (by simp[q])]
  simp
 ·rw[if_neg q,List.filter_cons,if_pos (by simpa [bne] using q)]
  simp
theorem vN(a b:List Got)(n:Nat):(dY a b n).Pairwise (· < ·):=(yu n).sublist List.filter_sublist
theorem xJ{a b:List Got}{n i:Nat}:i∈dY a b n↔i<n∧a[i]?≠b[i]?:=by
 unfold dY
 rw[List.mem_filter,List.mem_range]
 simp[bne]
theorem Oi{a b:List Got}{n:Nat}(ha:a.length=n)(hb:b.length=n):dY a b n=[]↔a=b:=by
 constructor
 ·intro h
  refine List.ext_getElem? fun i=>?_
  by_cases hi:i<n
  ·by_cases q:a[i]?=b[i]?
   ·exact q
   ·have:i∈dY a b n:=xJ.mpr ⟨hi,q⟩
    rw[h] at this
    cases this
  ·rw[List.getElem?_eq_none (by omega),List.getElem?_eq_none (by omega)]
 ·rintro rfl
  unfold dY
  rw[List.filter_eq_nil_iff]
  intro i _
  simp
theorem Oj{l:List Nat}(h:l.Pairwise (· < ·)):bitsOf l=0↔l=[]:=by
 constructor
 ·intro e
  cases l with
  |nil=>rfl
  |cons c r=>
   have q:=qx h c
   rw[e] at q
   simp at q
 ·rintro rfl;rfl
def apart(ts:List (List Got))(n:Nat)(p:List Nat):Prop:=∀(i j:Nat) (a b:List Got),j<i→ts[i]?=some a→ts[j]?=some b→a=b∨bitsOf (dY a b n)&&& bitsOf p≠0
theorem Ol{ts:List (List Got)}{n:Nat}(hl: ∀a∈ts,a.length=n){p:List Nat}(hp:Pick n p):tells ts p=true↔apart ts n p:=by
 have key: ∀(a b:List Got),a.length=n→b.length=n→(bitsOf (dY a b n)&&& bitsOf p≠0↔∃i∈p,a.getD i .gap≠b.getD i .gap):=fun a b ha hb=>by
  rw[Ne,and_zero]
  constructor
  ·intro h
   by_cases q: ∃i,(bitsOf (dY a b n)).testBit i=true∧(bitsOf p).testBit i=true
   ·obtain⟨i,h1,h2⟩:=q
    rw[qx (vN a b n)] at h1
    rw[qx hp.up] at h2
    obtain⟨h3,h4⟩:=xJ.mp (of_decide_eq_true h1)
    refine⟨i,of_decide_eq_true h2,?_⟩
    rw[List.getD_eq_getElem?_getD,List.getD_eq_getElem?_getD]
    rw[List.getElem?_eq_getElem (by omega),List.getElem?_eq_getElem (by omega)] at h4⊢
    exact fun z=>h4 (congrArg some z)
   ·exact absurd (fun i hi=>q ⟨i,hi⟩) h
  ·rintro⟨i,hi,hne⟩ h
   refine h i ⟨?_,?_⟩
   ·rw[qx (vN a b n)]
    refine decide_eq_true (xJ.mpr ⟨hp.lt i hi,fun z=>hne ?_⟩)
    rw[List.getD_eq_getElem?_getD,List.getD_eq_getElem?_getD,z]
   ·rw[qx hp.up]
    exact decide_eq_true hi
 unfold tells apart
 rw[List.all_eq_true]
 constructor
 ·intro h i j a b _ hi hj
  have ha:=List.mem_of_getElem? hi
  have hb:=List.mem_of_getElem? hj
  have q:=List.all_eq_true.mp (h a ha) b hb
  rw[Bool.or_eq_true,beq_iff_eq,List.any_eq_true] at q
  rcases q with q|⟨x,hx,q⟩
  ·exact .inl q
  ·exact .inr ((key a b (hl a ha) (hl b hb)).mpr ⟨x,hx,by simpa [bne] using q⟩)
 ·intro h a ha
  rw[List.all_eq_true]
  intro b hb
  rw[Bool.or_eq_true,beq_iff_eq,List.any_eq_true]
  by_cases e:a=b
  ·exact .inl e
  ·obtain⟨i,hi⟩:=List.mem_iff_getElem?.mp ha
   obtain⟨j,hj⟩:=List.mem_iff_getElem?.mp hb
   refine .inr ?_
   have nij:i≠j:=fun z=>by rw[z,hj] at hi;exact e (Option.some.inj hi).symm
   by_cases c:j<i
   ·rcases h i j a b c hi hj with q|q
    ·exact absurd q e
    ·obtain⟨x,hx,q⟩:=(key a b (hl a ha) (hl b hb)).mp q
     exact⟨x,hx,by simpa [bne] using q⟩
   ·rcases h j i b a (by omega) hj hi with q|q
    ·exact absurd q.symm e
    ·obtain⟨x,hx,q⟩:=(key b a (hl b hb) (hl a ha)).mp q
     exact⟨x,hx,by simpa [bne] using fun z=>q (by exact z.symm)⟩
def kJ(s:St)(k i:Nat):List Nat:=((s.rules.zipIdx.take i).filter fun x=>(s.line k).contains x.1.cls).map (·.2)
def nums(s:St)(k:Nat):List Nat:=kJ s k s.rules.length
theorem Bx{s:St}{k i:Nat}{r:Rule}(h:s.rules[i]?=some r):kJ s k (i+1)=if r.cls∈s.line k then kJ s k i++[i] else kJ s k i:=by
 unfold kJ
 rw[List.take_succ,Ek h]
 show((_++[(r,i)]).filter _).map _=_
 rw[List.filter_append,List.map_append,List.filter_cons]
 by_cases q:r.cls∈s.line k
 ·rw[if_pos q,if_pos (by simpa using q)]
  rfl
 ·rw[if_neg q,if_neg (by simpa using q)]
  simp
theorem FP(s:St)(k i:Nat):(kJ s k i).length≤i:=by
 unfold kJ
 rw[List.length_map]
 refine Nat.le_trans (List.length_filter_le _ _) ?_
 rw[List.length_take]
 omega
theorem xK(s:St)(k:Nat): ∀i,i≤s.rules.length→(kJ s k i).Pairwise (· < ·)∧∀j,j∈kJ s k i↔j<i∧∃r,s.rules[j]?=some r∧r.cls∈s.line k
 |0,_=>⟨by unfold kJ;simp,fun j=>by unfold kJ;simp⟩
 |i+1,hi=>by
  obtain⟨h1,h2⟩:=xK s k i (by omega)
  have hr:s.rules[i]?=some (s.rules[i]'(by omega)):=List.getElem?_eq_getElem _
  generalize s.rules[i]'(by omega)=r at hr
  rw[Bx hr]
  by_cases q:r.cls∈s.line k
  ·rw[if_pos q]
   refine⟨List.pairwise_append.mpr ⟨h1,List.pairwise_singleton _ _,fun a ha b hb=>?_⟩,fun j=>?_⟩
   ·rw[List.mem_singleton.mp hb];exact((h2 a).mp ha).1
   ·rw[List.mem_append,List.mem_singleton,h2]
    constructor
    ·rintro(⟨a,b⟩|rfl)
     ·exact⟨by omega,b⟩
     ·exact⟨by omega,r,hr,q⟩
    ·rintro⟨a,b⟩
     by_cases e:j=i
     ·exact .inr e
     ·exact .inl ⟨by omega,b⟩
  ·rw[if_neg q]
   refine⟨h1,fun j=>?_⟩
   rw[h2]
   constructor
   ·rintro⟨a,b⟩;exact⟨by omega,b⟩
   ·rintro⟨a,b⟩
    refine⟨?_,b⟩
    by_cases e:j=i
    ·subst e
     obtain⟨r',h3,h4⟩:=b
     rw[hr] at h3
     cases h3
     exact absurd h4 q
    ·omega
theorem Yq(s:St)(k:Nat):(nums s k).Pairwise (· < ·):=(xK s k _ (Nat.le_refl _)).1
theorem Om{s:St}{k j:Nat}:j∈nums s k↔∃r,s.rules[j]?=some r∧r.cls∈s.line k:=by
 unfold nums
 rw[(xK s k _ (Nat.le_refl _)).2]
 constructor
 ·exact fun h=>h.2
 ·rintro⟨r,h1,h2⟩
  exact⟨(List.getElem?_eq_some_iff.mp h1).1,r,h1,h2⟩
def wD(s:St)(k:Nat)(n:Int):Int×Int:=match s.rules[n.toNat]? with
 |some r=>((((fixed r.cond:Nat):Int)),-(((s.line k).idxOf r.cls:Nat):Int))
 |none=>(0,0)
theorem FQ{s:St}{k n:Nat}{r:Rule}(h:s.rules[n]?=some r):wD s k (n:Int)=((((fixed r.cond:Nat):Int)),-(((s.line k).idxOf r.cls:Nat):Int)):=by
 unfold wD
 rw[Int.toNat_natCast,h]
theorem QK{ns:List Int}(h: ∀n∈ns,0≤n):ns=(ns.map Int.toNat).map Int.ofNat:=by
 rw[List.map_map]
 conv=>lhs;rw[←List.map_id ns]
 refine List.map_congr_left fun n hn=>?_
 have:=h n hn
 show n=((n.toNat:Nat):Int)
 omega
theorem Yr{s:St}{k:Nat}{ns':List Int}(hp:ns'.Perm ((nums s k).map Int.ofNat))(hs:ns'.Pairwise fun x y=>¬lt2 (wD s k y) (wD s k x))
  (hst: ∀c,ns'.filter (fun x=>wD s k x==c)=((nums s k).map Int.ofNat).filter (fun x=>wD s k x==c)): ∃L:List Nat,ns'=L.map Int.ofNat∧Weak s k L∧L.length=(nums s k).length:=by
 have hn: ∀n∈ns',0≤n:=fun n hn=>by
  obtain⟨m,_,rfl⟩:=List.mem_map.mp (hp.mem_iff.mp hn)
  exact Int.natCast_nonneg m
 have up0:((nums s k).map Int.ofNat).Pairwise (· < ·):=by
  rw[List.pairwise_map]
  exact(Yq s k).imp fun h=>Int.ofNat_lt.mpr h
 have up:=Jb (g:=wD s k) hs fun c=>by
  rw[hst c]
  exact up0.sublist List.filter_sublist
 have e:=QK hn
 refine⟨ns'.map Int.toNat,e,⟨fun i=>?_,?_⟩,?_⟩
 ·rw[←Om]
  constructor
  ·intro h
   obtain⟨n,hn',rfl⟩:=List.mem_map.mp h
   obtain⟨m,hm,rfl⟩:=List.mem_map.mp (hp.mem_iff.mp hn')
   exact hm
  ·intro h
   exact List.mem_map.mpr ⟨(i:Int),hp.mem_iff.mpr (List.mem_map.mpr ⟨i,h,rfl⟩),Int.toNat_natCast i⟩
 ·rw[List.pairwise_map]
  refine up.imp_of_mem fun{x y} hx hy h=>?_
  have h0x:=hn x hx
  have h0y:=hn y hy
  obtain⟨a,rfl⟩: ∃a:Nat,x=(a:Int):=⟨x.toNat,by omega⟩
  obtain⟨b,rfl⟩: ∃b:Nat,y=(b:Int):=⟨y.toNat,by omega⟩
  intro ri rj h1 h2
  rw[Int.toNat_natCast] at h1 h2
  rw[FQ h1,FQ h2] at h
  refine⟨?_⟩
  show fixed ri.cond<fixed rj.cond∨(fixed ri.cond=fixed rj.cond∧((s.line k).idxOf rj.cls<(s.line k).idxOf ri.cls∨((s.line k).idxOf rj.cls=(s.line k).idxOf ri.cls∧((a:Int).toNat)<((b:Int).toNat))))
  rw[Int.toNat_natCast,Int.toNat_natCast]
  rcases h with h|⟨h,h'⟩
  ·unfold lt2 at h
   simp only at h
   omega
  ·injection h with h3 h4
   omega
 ·rw[List.length_map,hp.length_eq,List.length_map]
def rowOf(s:St)(c:Cell)(L:List Nat):List (Option Nat):=(List.range 6).map fun b=>mj s b c L
theorem mV(s:St)(c:Cell)(L:List Nat):(rowOf s c L).length=6:=by unfold rowOf;rw[List.length_map,List.length_range]
theorem FT{s:St}{c:Cell}{L:List Nat}{b:Nat}(h:b<6):(rowOf s c L)[b]?=some (mj s b c L):=by
 unfold rowOf
 rw[List.getElem?_map,List.getElem?_range h]
 rfl
theorem FW{s:St}{c:Cell}{L:List Nat}{n:Nat}{r:Rule}(h:s.rules[n]?=some r)(hb:r.block<6):rowOf s c (L++[n])=if meets r.cond c=true then(rowOf s c L).set r.block (some n) else rowOf s c L:=by
 have e: ∀b,mj s b c (L++[n])=if r.block=b∧meets r.cond c=true then some n else mj s b c L:=fun b=>by
  unfold mj
  rw[List.foldl_append]
  show lastStep s b c _ n=_
  unfold lastStep IW
  rw[h]
  show(if(r.block==b&&meets r.cond c)=true then _ else _)=_
  by_cases q:r.block=b∧meets r.cond c=true
  ·rw[if_pos q,if_pos (by simp[q.1,q.2])]
  ·rw[if_neg q,if_neg (by simpa using q)]
 refine List.ext_getElem? fun b=>?_
 by_cases hb6:b<6
 ·rw[FT hb6,e]
  by_cases q:meets r.cond c=true
  ·rw[if_pos q]
   by_cases q2:r.block=b
   ·rw[if_pos ⟨q2,q⟩,←q2,List.getElem?_set_self (by rw[mV];exact hb)]
   ·rw[if_neg (fun z=>q2 z.1),List.getElem?_set_ne q2,FT hb6]
  ·rw[if_neg q,if_neg (fun z=>q z.2),FT hb6]
 ·rw[List.getElem?_eq_none (by rw[mV];omega)]
  split
  ·rw[List.getElem?_eq_none (by rw[List.length_set,mV];omega)]
  ·rw[List.getElem?_eq_none (by rw[mV];omega)]
theorem QL{s:St}{k:Nat}{c:Cell}{L:List Nat}(h:Weak s k L):rowOf s c L=(List.range 6).map fun b=>(s.winner k b c).map (·.2):=by
 unfold rowOf
 refine List.map_congr_left fun b _=>JW h
end Fs
namespace Ft
open PySem PySem.Spec PyProof.Rows L2
abbrev dM(H:Hp)(pt:Addr):Prop:=TabOk LPos abf H pt
def TabOf(K:PySem.W.Frag)(base:Heap)(f pt:Addr):Prop:=∀o fd,K.lookup f=some o→o.data= .func fd→∃c,fd.code= .ref c∧PySem.W.CodeHd base c pt
theorem dM.ne{H:Hp}{pt:Addr}(h:dM H pt): ∃ps,H pt=some (.tbl ps):=by
 rcases h with h|⟨c,h,_⟩
 ·exact⟨_,h⟩
 ·exact⟨_,h⟩
theorem dM.keep{H H':Hp}{pt:Addr}(h:dM H pt){l:List Addr}(k:aL l H H')(hl: ∀b∈l,∀u,H b=some u→(∀ps,u≠ .tbl ps)∧∀φ,u≠ .ext φ):dM H' pt:=by
 rcases h with h|⟨c,h1,h2⟩
 ·exact .inl (k _ _ h fun m=>(hl _ m _ h).1 _ rfl)
 ·exact .inr ⟨c,k _ _ h1 fun m=>(hl _ m _ h1).1 _ rfl,k _ _ h2 fun m=>(hl _ m _ h2).2 _ rfl⟩
theorem ji{H H':Hp}{pt q:Addr}(k:aL [pt] H H')(T:dM H' pt)(h:H' q=none):H q=none:=by
 obtain⟨ps,e⟩:=T.ne
 exact rW k h (Ne.symm (aG e h))
section
variable{P:Program}{w:World}{K:PySem.W.Frag}{mg:Str→Option Value}{base:Heap}{au aD aj aH aK:Addr}{f:Addr}{fd:FuncData}
def sJ(cL cR cW:Addr):Sp:=fun vs H Q _=>∃l s t S,vs=[.ref l]∧LAt cL cR cW H l s t S∧(∀n∈s.dims,n≤8)∧∀H',Same H H'→Q (.int (Sx03.product s.dims:Nat)) H'
theorem mO(F:Fun K "count_all_cells" "Language.count_all_cells" eO f fd)(T:Txt K mg aD aK aH au aj)(dI:GF P w K mg base "count_cells" 1 ["sizes"] (yI K)):bJ P w K mg base CX0 2 f fd ["self"] (sJ aj aD aH):=by
 refine F.ok mJ (fun vs H Q E h=>?_) (fun cdv A outer s H vs Q E hr h=>?_)
 ·obtain⟨l,s,t,S,rfl,_⟩:=h
  rfl
 ·obtain⟨l,s,t,S,rfl,L,h8,k⟩:=h
  refine⟨_,(aF (aP (aQ dI (hr.mono (by decide)) (ak (aW (pv 0) rfl) aC)))),?_⟩
  exact⟨_,rfl,l,_,_,_,_,rfl,L.lang,T.aR,T.bM,iu,S.za,s.dims,rfl,SqL.of (L.sub _ _ L.sizes),h8,k⟩
def WW(s:Sx03.St):Option Nat→List Nat
 |none=>[]
 |some j=>s.line j
def Y5:Option Nat→Nat
 |none=>0
 |some j=>j+1
def QM(cL cR cW:Addr):Sp:=fun vs H Q _=>∃(l:Addr) (s:Sx03.St) (t:Nat) (S:Sh) (k:Nat),vs=[.ref l,.int (k:Nat)]∧LAt cL cR cW H l s t S∧Fs.Wf s∧k<s.classes.length∧∀H' q,Same H H'→H q=none→H' q=some (.lst (nv (s.line k)))→Q (.ref q) H'
theorem Af(F:Fun K "line" "Language.line" lV f fd)(T:Txt K mg aD aK aH au aj):bJ P w K mg base CX0 1 f fd ["self","group"] (QM aj aD aH):=by
 refine F.ok kh (fun vs H Q E h=>?_) (fun cdv A outer s H vs Q E hr h=>?_)
 ·obtain⟨l,s,t,S,k,rfl,_⟩:=h
  rfl
 ·obtain⟨l,s0,t,S,k0,rfl,L,hwf,hk0,k⟩:=h
  have ll: ∀k,(s0.line k).length≤16:=fun k=>Nat.le_trans (Fs.Nm _ _) hwf.JR
  refine⟨_,(aB (aX (i:=2) kh.nd rfl (by first|exact Or.inl rfl|exact Or.inr rfl) (bG aC))
   (aB (pY PassesOwn.never (aY Dq (pv 1) (bW T.oG) (bx _))
   (aB (dj (jw PySem.F.plainAttrs_list PySem.F.slot_list_append PySem.F.type_list_append fQ (pv 2) (ak (pv 1) aC)))
   (aF (aX (i:=1) kh.nd rfl (by first|exact Or.inl rfl|exact Or.inr rfl) (cJ bK (aW (pv 0) rfl) (pv 1) (fun _ _=>rfl))))))
   (aF (aP (pv 2))))),?_⟩
  refine⟨Nat.zero_le _,fun q hq=>?_⟩
  refine⟨fun m σ H'=>∃(cur:Option Nat) (done:List Nat),σ=[some (.ref l),some (.int (fO cur)),some (.ref q)]∧Y5 cur=m∧(∀j,cur=some j→j<s0.classes.length)∧Same H H'∧H' q=some (.lst (nv done))∧s0.line k0=done++WW s0 cur,⟨k0+1,some k0,[],rfl,rfl,fun j e=>by cases e;exact hk0,Same.new hq,aA,rfl⟩,?_⟩
  rintro m σ H1 ⟨cur,done,rfl,hm,hj,hH,hq1,hl⟩
  refine⟨_,rfl,rfl,_,rfl,?_⟩
  cases cur with
  |none=>
   refine cA ⟨_,rfl,?_⟩
   have e:s0.line k0=done:=by rw[hl];exact List.append_nil done
   rw[←e] at hq1
   exact k H1 q hH hq hq1
  |some j=>
   have hjl:=hj j rfl
   have e1:(!decide (V.int (fO (some j))=V.int (-1)))=true:=by
    rw[decide_eq_false (show¬V.int (fO (some j))=V.int (-1) from fun e=>by injection e with e;have e:(j:Int)= -1:=e;omega)]
    rfl
   rw[e1]
   refine cB ?_
   refine⟨fun σ' H'=>∃(cur:Option Nat) (done:List Nat),σ'=[some (.ref l),some (.int (fO cur)),some (.ref q)]∧Y5 cur<m∧(∀j,cur=some j→j<s0.classes.length)∧Same H H'∧H' q=some (.lst (nv done))∧s0.line k0=done++WW s0 cur,?_,?_⟩
   ·rintro σ' H' ⟨cur,done,e1,e2,e3⟩
    exact⟨_,e2,cur,done,e1,rfl,e3⟩
   have abn:=Fs.TJ hwf.par hjl
   have hlen:=congrArg List.length hl
   rw[List.length_append] at hlen
   have:=ll k0
   refine⟨_,rfl,.inl ⟨rfl,_,SqL.of hq1⟩,_,rfl,q,_,_,rfl,rfl,hq1,(by rw[List.length_map,List.length_map];exact small (by omega)),?_⟩
   have hH2:Same H (upd H1 q (.lst (nv done++[V.int (fO (some j))]))):=fun b o e=>by rw[aJ (aG e hq)];exact hH b o e
   have L2:=L.same hH2
   have hx:(s0.classes.map fO)[j]?=some (fO s0.classes[j]):=by rw[List.getElem?_map,List.getElem?_eq_getElem hjl];rfl
   refine⟨_,rfl,l,_,_,_,_,rfl,L2.lang,T.aR,T.dD,nA,_,rfl,S.pa,_,_,_,rfl,rfl,SqL.of L2.par,at_of (j:=j) rfl (by rw[List.getElem?_map,hx];rfl),?_⟩
   have hgd:s0.classes.getD j none=s0.classes[j]:=by rw[List.getD_eq_getElem?_getD,List.getElem?_eq_getElem hjl];rfl
   refine⟨s0.classes[j],done++[j],rfl,?_,fun p hp=>?_,hH2,?_,?_⟩
   ·cases e:s0.classes[j] with
    |none=>show 0<m;rw[←hm];show 0<j+1;omega
    |some p=>
     have:=hwf.par j p (by rw[List.getElem?_eq_getElem hjl,e])
     show p+1<m
     rw[←hm]
     show p+1<j+1
     omega
   ·have:=hwf.par j p (by rw[List.getElem?_eq_getElem hjl,hp])
    omega
   ·rw[aA]
    show some (HO.lst _)=some (HO.lst (((done++[j]).map Int.ofNat).map V.int))
    rw[List.map_append,List.map_append]
    rfl
   ·rw[hl,List.append_assoc]
    show done++s0.line j=done++([j]++WW s0 s0.classes[j])
    rw[abn]
    congr 2
    unfold Fs.above
    rw[hgd]
    cases s0.classes[j]<;>rfl
def QS(K:PySem.W.Frag)(cR:Addr):Sp:=fun vs H Q _=>∃(a q ce so:Addr) (kc:Nat) (b:Int) (l:Sx03.Cond) (op:Sx03.Op) (ln:List Nat),vs=[.ref a,.ref q]∧iQ cR H a (kc:Nat) b (dJ l) op ce so∧SqL K H q (nv ln)∧kc∈ln∧
 ∀H' T,Same H H'→H T=none→H' T=some (.tup [.int (Sx03.fixed l:Nat),.int (-((ln.idxOf kc:Nat):Int))])→Q (.ref T) H'
theorem Ut{ln:List Nat}{k:Nat}(h:k∈ln):(nv ln)[ln.idxOf k]?=some (.int (k:Nat))∧∀(m:Nat) (z:V),m<ln.idxOf k→(nv ln)[m]?=some z→eqV z (.int (k:Nat))=false:=by
 have h1:=List.idxOf_lt_length_of_mem h
 refine⟨?_,fun m z hm hz=>?_⟩
 ·rw[List.getElem?_map,List.getElem?_map,List.getElem?_eq_getElem h1,List.getElem_idxOf h1]
  rfl
 ·obtain⟨i,hi,rfl⟩:=bO hz
  obtain⟨n,hn,rfl⟩:=bO hi
  have hml:=(List.getElem?_eq_some_iff.mp hn).1
  have z:=List.not_of_lt_findIdx (p:=fun x=>x==k) (xs:=ln) (i:=m) (by show m<ln.idxOf k;exact hm)
  have e:=(List.getElem?_eq_some_iff.mp hn).2
  rw[e] at z
  have z: ¬n=k:=by simpa using z
  show eqV (.int (n:Int)) (.int (k:Int))=false
  simp[eqV]
  omega
theorem Ys(F:Fun K "rank" "rank" Qt f fd)(T:Txt K mg aD aK aH au aj)(pQ:GF P w K mg base "count_fixed" 1 ["condition"] (KD K)):bJ P w K mg base CX0 2 f fd ["rule","line"] (QS K aD):=by
 refine F.ok Yg (fun vs H Q E h=>?_) (fun cdv A outer s H vs Q E hr h=>?_)
 ·obtain⟨a,q,ce,so,kc,b,l,op,ln,rfl,_⟩:=h
  rfl
 ·obtain⟨a,q,ce,so,kc,b,l,op,ln,rfl,hR,hq,hm,k⟩:=h
  obtain⟨dx,ca,la,as,h1,h2,h3,h4,_⟩:=hR.ex
  obtain⟨i1,i2⟩:=Ut hm
  refine⟨_,(aF (aP (PL (ak (aQ pQ (hr.mono (by decide)) (ak (aW (pv 0) rfl) aC)) (ak (aaL Zv (jw PySem.F.plainAttrs_list PySem.F.slot_list_index PySem.F.type_list_index Vu (pv 1) (ak (aW (pv 0) rfl) aC))) aC))))),?_⟩
  refine⟨_,rfl,a,_,dx,_,_,rfl,h1,T.bC,T.iD,rT,ca,l,rfl,SqL.of h2,fun H1 hH1=>?_⟩
  refine⟨_,rfl,.inl ⟨rfl,_,hH1.seq hq⟩,_,rfl,a,_,dx,_,_,rfl,hH1 _ _ h1,T.bC,T.rJ,NT,q,nv ln,.int (kc:Nat),ln.idxOf kc,.int (kc:Nat),rfl,rfl,hH1.seq hq,rfl,yJ _,i1,(by simp[eqV]),i2,?_⟩
  refine⟨_,rfl,(by show 2≤sizeLine;decide),fun Tp hT=>?_⟩
  exact k _ Tp (hH1.trans (Same.new hT)) (hH1.free hT) aA
def Ag(cL cR cW pt:Addr):Sp:=fun vs H Q _=>∃(l:Addr) (s:Sx03.St) (t:Nat) (S:Sh) (k:Nat),vs=[.ref l,.int (k:Nat)]∧LAt cL cR cW H l s t S∧Fs.Wf s∧k<s.classes.length∧dM H pt∧Out S l pt∧
 ∀H' q L,aL [pt] H H'→dM H' pt→H q=none→H' q=some (.lst (nv L))→Fs.Weak s k L→L.length≤200→Q (.ref q) H'
theorem tK(F:Fun K "list_weakest_first" "list_weakest_first" fD f fd)(T:Txt K mg aD aK aH au aj)(BM:uo mg base){pt:Addr}(TB:TabOf K base f pt)(lY:GM P w K mg base aj "line" 1 ["self","group"] (QM aj aD aH))(QT:GF P w K mg base "rank" 2 ["rule","line"] (QS K aD)):bJ P w K mg base CX0 6 f fd ["language","group"] (Ag aj aD aH pt):=by
 obtain⟨oc,od,kV,doc,pm,an,cdv,ct,osl,rfl,lk,hcd⟩:=F.ex
 obtain⟨c,hcode,C⟩:=TB _ _ lk rfl
 refine YK lk hcd dB (fun vs H Q E h=>?_) fun A outer s H vs Q E hr h=>?_
 ·obtain⟨l,s,t,S,k,rfl,_⟩:=h
  rfl
 ·obtain⟨l,s0,t,S,k0,rfl,L,hwf,hk0,TA,hop,k⟩:=h
  suffices z: ∃t,PSs (Jz CX0 P w K mg base _ _ _ f cdv A outer s H E).nox (mG fD) t∧t {nx:=fun _ H'=>Q .non H',rt:=Q} (start _ [.ref l,.int (k0:Nat)]) H by
   obtain⟨t,h1,h2⟩:=z
   exact⟨t,h1.nox,h2⟩
  refine⟨_,(aB (aX (i:=2) dB.nd rfl (by first|exact Or.inl rfl|exact Or.inr rfl) (aW (pv 0) rfl))
   (aB (aX (i:=3) dB.nd rfl (by first|exact Or.inl rfl|exact Or.inr rfl) (jc (pv 0) lY (hr.mono (by decide)) (ak (pv 1) aC)))
   (aB (uh (own:=[("number",5),("rule",6)]) (i:=4) rfl dB.nd rfl rfl (yj rfl rfl rfl rfl) (vL (by rfl) T.jA (ak (pv 2) aC)) (fU (by rfl)) (fun _ _ _ _ _=>(En (K:=K) (i:=5) (j:=6) rfl rfl dB.nd rfl rfl rfl rfl)) (fun _ _ _ _ _=>(RD (aY (Z4 (K:=K) rfl) (JX (K:=K) rfl (pv 6) rfl) (pv 3) rfl))) (fun _ _ _ _ _=>(pv 5)))
   (aF (aP (Qn (p:="number") (y1:="line") (y2:="rules") (i:=3) (j:=2) (pv 4) hr T.Wt hcode C BM (fun _ _ _ _ _ _ _ hrL=>(aQ QT (hrL.mono (by decide)) (ak (cJ (Wq (K:=K) rfl) (pv 2) (pv 0) (fun _ _=>rfl)) (ak (pv 1) aC)))) rfl rfl ⟨rfl,rfl,rfl,by decide,rfl,rfl,rfl⟩ (by rfl) rfl rfl (fun _ _ _ _ _ _=>rfl))))))),?_⟩
  refine⟨_,rfl,l,_,_,_,_,rfl,L.lang,T.aR,T.cF,lJ,?_⟩
  refine⟨_,rfl,l,_,_,rfl,L.lang,Yi,_,rfl,l,s0,t,S,k0,rfl,L,hwf,hk0,fun H1 lq hH1 flq hlq=>?_⟩
  have L1:=L.same hH1
  have nr:=hwf.Qh
  refine⟨_,rfl,S.ra,_,rfl,SqL.of L1.rules,fun D hD=>?_⟩
  refine Yc (K:=K) (a:=S.ra) (xs:=S.ras.map V.ref) (fun i H'=>Same H1 H'∧H' D=some (.lst (nv (Fs.kJ s0 k0 i)))) ⟨Same.new hD,aA⟩ (fun i H' _ p=>SqL.of (p.1 _ _ L1.rules)) ?_ ?_
  ·rintro i x Tp H2 hx hT ⟨hH2,hD2⟩
   obtain⟨ra,hra,rfl⟩:=bO hx
   have hi:i<s0.rules.length:=by
    have:=(List.getElem?_eq_some_iff.mp hra).1
    rw[L.rlen] at this
    exact this
   have hru:s0.rules[i]?=some s0.rules[i]:=List.getElem?_eq_getElem hi
   generalize s0.rules[i]=r at hru
   have hup:=Fs.Bx (k:=k0) hru
   obtain⟨ce,so,kvs,Cd,_⟩:=(L.rat i ra r hra hru).ex
   have sT:Same H1 (upd H2 Tp (.tup [.int (i:Nat),.ref ra])):=hH2.trans (Same.new hT)
   have abo:=Cd.mono ((L1.same sT).sub)
   obtain⟨dx,ca,la,as,h1,h2,h3,h4,_⟩:=abo.ex
   have nDT:D≠Tp:=aG hD2 hT
   have hlen:=Fs.FP s0 k0 i
   refine⟨Tp,_,rfl,SqT.of aA,rfl,_,_,rfl,_,_,rfl,rfl,rfl,?_⟩
   refine⟨_,rfl,ra,_,dx,_,_,rfl,h1,T.bC,T.rJ,NT,_,rfl,lq,nv (s0.line k0),rfl,.inl (SqL.of (sT _ _ hlq)),rfl,yJ _,_,rfl,?_⟩
   have e:(if false=true then !inV (.int ((r.cls:Nat):Int)) (nv (s0.line k0)) else inV (.int ((r.cls:Nat):Int)) (nv (s0.line k0)))=decide (r.cls∈s0.line k0):=by
    rw[if_neg (by decide),Ke]
    refine decide_eq_decide.mpr ?_
    rw[List.mem_map]
    constructor
    ·rintro⟨n,hn,e⟩
     have e:(n:Int)=(r.cls:Int):=e
     rw[show r.cls=n by omega]
     exact hn
    ·exact fun h=>⟨_,h,rfl⟩
   rw[e]
   by_cases q:r.cls∈s0.line k0
   ·rw[decide_eq_true q]
    rw[if_pos q] at hup
    refine cB ⟨_,rfl,nv (Fs.kJ s0 k0 i),by rw[aJ nDT];exact hD2,by rw[List.length_map,List.length_map];exact small (by omega),fun b o e=>?_,?_⟩
    ·rw[aJ (aG e hD)];exact sT b o e
    ·rw[aA,hup]
     show some (HO.lst _)=some (HO.lst (((_++[i]).map Int.ofNat).map V.int))
     rw[List.map_append,List.map_append]
     rfl
   ·rw[decide_eq_false q]
    rw[if_neg q] at hup
    exact cA ⟨sT,by rw[aJ nDT,hup];exact hD2⟩
  ·rintro H2 ⟨hH2,hD2⟩
   rw[List.length_map,L.rlen] at hD2
   have hD2:H2 D=some (.lst (((Fs.nums s0 k0).map Int.ofNat).map V.int)):=hD2
   have T2:dM H2 pt:=TA.same (hH1.trans hH2)
   have L2:=L1.same hH2
   have nlen:(Fs.nums s0 k0).length≤200:=Nat.le_trans (Fs.FP _ _ _) nr
   refine⟨_,rfl,D,(Fs.nums s0 k0).map Int.ofNat,Fs.wD s0 k0,rfl,SqL.of hD2,by rw[List.length_map];omega,T2,fun H3 k3 T3=>⟨fun n hn H4 hS=>?_,fun ns' p H4 q1 q2 q3 hS hp=>?_⟩⟩
   ·obtain⟨m,hm,rfl⟩:=List.mem_map.mp hn
    obtain⟨r,hr',hc⟩:=Fs.Om.mp hm
    have hml:m<S.ras.length:=by
     rw[L.rlen]
     exact(List.getElem?_eq_some_iff.mp hr').1
    have hra:S.ras[m]?=some S.ras[m]:=List.getElem?_eq_getElem hml
    have L3:=(L2.keep k3 (yP hop)).same hS
    obtain⟨ce,so,kvs,Cd,_⟩:=(L.rat m _ r hra hr').ex
    have WX:=Cd.mono L3.sub
    have hlq4:SqL K H4 lq (nv (s0.line k0)):=by
     have z:H2 lq=some (.lst (nv (s0.line k0))):=hH2 _ _ hlq
     obtain⟨ps,e⟩:=dM.ne T2
     exact SqL.of (hS _ _ (k3 _ _ z (by simpa using d8 z e (fun q=>nomatch q))))
    refine⟨_,rfl,_,rfl,S.ra,_,_,_,rfl,rfl,SqL.of L3.rules,at_of (j:=m) rfl (by rw[List.getElem?_map,hra];rfl),_,rfl,_,lq,ce,so,r.cls,_,r.cond,r.op,s0.line k0,rfl,WX,hlq4,hc,fun H5 Tp hH5 _ hT=>⟨Tp,rfl,?_,hH5⟩⟩
    rw[hT]
    show _=some (HO.tup [.int (Fs.wD s0 k0 ((m:Nat):Int)).1,.int (Fs.wD s0 k0 ((m:Nat):Int)).2])
    rw[Fs.FQ hr']
   ·obtain⟨Lw,e,hW,hLl⟩:=Fs.Yr q1 q2 q3
    have k13:aL [pt] H H4:=((aL.same (hH1.trans hH2)).trans k3).trans (aL.same hS)
    have T4:dM H4 pt:=T3.same hS
    refine k _ p Lw (k13.trans (aL.same (Same.new hp))) (T4.same (Same.new hp)) (ji k13 T4 hp) ?_ hW (by omega)
    rw[aA,e]
end
def nO:Option Nat→V
 |none=> .non
 |some n=> .int (n:Nat)
def jr(s:Sx03.St)(k:Nat)(c:Sx03.Cell):List (Option Nat):=(List.range 6).map fun b=>(s.winner k b c).map (·.2)
structure nQ(H:Hp)(f:Addr)(rows:List Addr)(s:Sx03.St)(k:Nat):Prop where
 at_:H f=some (.lst (rows.map V.ref))
 len:rows.length=(Sx03.cells s.dims).length
 row: ∀(i:Nat) c a,(Sx03.cells s.dims)[i]?=some c→rows[i]?=some a→H a=some (.lst ((jr s k c).map nO))
theorem nQ.keep{H H':Hp}{f:Addr}{rows:List Addr}{s:Sx03.St}{k:Nat}(h:nQ H f rows s k){l:List Addr}(kp:aL l H H')(hf:f∉l)(hr: ∀a∈rows,a∉l):nQ H' f rows s k:=
 ⟨kp _ _ h.at_ hf,h.len,fun i c a hc ha=>kp _ _ (h.row i c a hc ha) (hr a (List.mem_of_getElem? ha))⟩
theorem nQ.same{H H':Hp}{f:Addr}{rows:List Addr}{s:Sx03.St}{k:Nat}(h:nQ H f rows s k)(kp:Same H H'):nQ H' f rows s k:=h.keep (l:=[]) (aL.same kp) (by simp) fun _ _=>by simp
theorem Yt{n j:Nat}(h:j<n):ixN n (j:Int)=some j:=by
 unfold ixN
 rw[if_pos (by omega),if_pos (by omega)];simp
theorem map_set{α β:Type}(f:α→β)(l:List α)(i:Nat)(x:α):(l.map f).set i (f x)=(l.set i x).map f:=by rw[List.map_set]
section
variable{P:Program}{w:World}{K:PySem.W.Frag}{mg:Str→Option Value}{base:Heap}{au aD aj aH aK:Addr}{f:Addr}{fd:FuncData}
def kO(cL cR cW pt:Addr):Sp:=fun vs H Q _=>∃(l:Addr) (s:Sx03.St) (t:Nat) (S:Sh) (k:Nat),vs=[.ref l,.int (k:Nat)]∧LAt cL cR cW H l s t S∧Fs.Wf s∧k<s.classes.length∧s.dims≠[]∧dM H pt∧Out S l pt∧
 ∀H' f rows,aL [pt] H H'→dM H' pt→H f=none→(∀a∈rows,H a=none)→nQ H' f rows s k→Q (.ref f) H'
theorem Ah(F:Fun K "list_followed" "list_followed" lN f fd)(T:Txt K mg aD aK aH au aj){pt:Addr}(bV:GM P w K mg base aj "count_all_cells" 2 ["self"] (sJ aj aD aH))(iy:GF P w K mg base "list_weakest_first" 6 ["language","group"] (Ag aj aD aH pt)):bJ P w K mg base CX0 7 f fd ["language","group"] (kO aj aD aH pt):=by
 refine F.ok eF (fun vs H Q E h=>?_) (fun cdv A outer s H vs Q E hr h=>?_)
 ·obtain⟨l,s,t,S,k,rfl,_⟩:=h
  rfl
 ·obtain⟨l,s0,t,S,k0,rfl,L,hwf,hk0,hd,TA,hop,k⟩:=h
  have hdm:=hwf.dimsOk hd
  obtain⟨d4,d64⟩:=R5 hdm
  refine⟨_,(aB (uh (own:=[("cell",3)]) (i:=2) rfl eF.nd rfl rfl (yj rfl rfl rfl rfl) (gH (by rfl) T.iI (ak (bf (pv 0) bV (hr.mono (by decide))) aC)) (fU (by rfl)) (fun _ _ _ _ _=>(bF (i:=3) eF.nd rfl (by first|exact Or.inl rfl|exact Or.inr rfl))) (fun _ _ _ _ _=>jG) (fun _ _ _ _ _=>(dF ZJ (bG (ak dW aC)) (bW T.EY))))
   (aB (dU PassesOwn.never rfl (eV (aQ iy (hr.mono (by decide)) (ak (pv 0) (ak (pv 1) aC)))) (bF (i:=4) eF.nd rfl (by first|exact Or.inl rfl|exact Or.inr rfl))
   (aB (aX (i:=5) eF.nd rfl (by first|exact Or.inl rfl|exact Or.inr rfl) (cJ bK (aW (pv 0) rfl) (pv 4) (fun _ _=>rfl)))
   (aF (dU PassesOwn.never rfl (eV (aW (pv 5) rfl)) (bF (i:=3) eF.nd rfl (by first|exact Or.inl rfl|exact Or.inr rfl))
   (aF (Zn (pv 4) (Zm (cJ bK (pv 2) (pv 3) (fun _ _=>rfl)) (aW (pv 5) rfl) set_list)))))))
   (aF (aP (pv 2))))),?_⟩
  refine⟨_,rfl,l,_,_,rfl,L.lang,nF,l,s0,t,S,rfl,L,KH hdm,fun H1 hH1=>⟨(Sx03.product s0.dims:Nat),rfl,by omega,by omega,fun D hD=>?_⟩⟩
  refine p8 (lo:=0) (n:=(((Sx03.product s0.dims:Nat):Int)).toNat) (fun i H'=>∃rows:List Addr,rows.length=i∧Same H1 H'∧H' D=some (.lst (rows.map V.ref))∧(∀a∈rows,H1 a=none∧a≠D∧H' a=some (.lst [.non,.non,.non,.non,.non,.non]))∧rows.Nodup) ⟨[],rfl,Same.new hD,aA,fun a h=>(nomatch h),List.nodup_nil⟩ ?_ ?_
  ·rintro i H2 hi ⟨rows,hl,hH2,hD2,hA,hN⟩
   refine⟨rfl,jH ?_⟩
   refine⟨(by show 1≤sizeLine;decide),fun p hp=>⟨p,6,[.non],rfl,rfl,aA,by decide,by decide,(by show 6≤sizeLine;decide),fun q hq=>?_⟩⟩
   obtain⟨nqp,hq0⟩:=bw hq
   have s3:Same H2 (upd (upd H2 p (.lst [.non])) q (.lst (List.replicate (6:Int).toNat [V.non]).flatten)):=(Same.new hp).trans (Same.new hq)
   have nqD:q≠D:=Ne.symm (aG hD2 hq0)
   refine⟨_,s3 _ _ hD2,by rw[List.length_map,hl];exact small (by omega),rows++[q],by rw[List.length_append,hl];rfl,fun b o e=>?_,?_,fun a ha=>?_,?_⟩
   ·rw[aJ (aG e hD)];exact s3 _ _ (hH2 _ _ e)
   ·rw[aA,List.map_append];rfl
   ·rcases List.mem_append.mp ha with ha|ha
    ·obtain⟨g1,g2,g3⟩:=hA a ha
     exact⟨g1,g2,by rw[aJ g2];exact s3 _ _ g3⟩
    ·rw[List.mem_singleton.mp ha]
     exact⟨hH2.free hq0,nqD,by rw[aJ nqD,aA];rfl⟩
   ·exact JL hN fun m=>by
     obtain⟨_,_,g3⟩:=hA q m
     rw[g3] at hq0
     cases hq0
  ·rintro H2 ⟨rows,hl,hH2,hD2,hA,hN⟩
   have hlen:rows.length=(Sx03.cells s0.dims).length:=by rw[hl,Fs.fW];omega
   have h02:=hH1.trans hH2
   have L2:=L.same h02
   have T2:dM H2 pt:=TA.same h02
   have aah: ∀a∈rows,H a=none:=fun a ha=>hH1.free (hA a ha).1
   have orow: ∀a∈rows,Out S l a:=fun a ha=>L.out (aah a ha)
   refine⟨_,rfl,_,rfl,l,s0,t,S,k0,rfl,L2,hwf,hk0,T2,hop,fun H3 q Lw k3 T3 fq hq hW hLl=>?_⟩
   have L3:=L2.keep k3 (yP hop)
   have npt: ∀{c:Addr} {xs:List V},H2 c=some (.lst xs)→c∉[pt]:=fun{c xs} e m=>by
    obtain⟨ps,z⟩:=dM.ne T2
    rw[List.mem_singleton.mp m,z] at e
    cases e
   have hD3:=k3 _ _ hD2 (npt hD2)
   have hr3: ∀a∈rows,H3 a=some (.lst [.non,.non,.non,.non,.non,.non]):=fun a ha=>k3 _ _ (hA a ha).2.2 (npt (hA a ha).2.2)
   have nq:q∉rows:=fun m=>by rw[(hA q m).2.2] at fq;cases fq
   have nD:D∉rows:=fun m=>(hA D m).2.1 rfl
   refine⟨q,rfl,⟨_,SqL.of hq⟩,gY (K:=K) (a:=q) (xs:=nv Lw) (fun i σ H'=>∃v3 v4 v5,σ=[some (.ref l),some (.int (k0:Nat)),some (.ref D),v3,v4,v5]∧aL rows H3 H'∧∀(j:Nat) c a,(Sx03.cells s0.dims)[j]?=some c→rows[j]?=some a→H' a=some (.lst ((Fs.rowOf s0 c (Lw.take i)).map nO))) ?_ ?_ ?_ ?_⟩
   ·refine⟨_,_,_,rfl,aL.same (Same.refl _),fun j c a hc ha=>?_⟩
    exact hr3 a (List.mem_of_getElem? ha)
   ·rintro i σ H' _ ⟨_,_,_,_,kp,_⟩
    exact SqL.of (kp _ _ hq nq)
   ·rintro i z σ H4 hz ⟨v3,v4,v5,rfl,kp,hrow⟩
    obtain⟨z',hz',rfl⟩:=bO hz
    obtain⟨n,hn,rfl⟩:=bO hz'
    obtain⟨r,hru,_⟩:=(hW.mem n).mp (List.mem_of_getElem? hn)
    have hnl:n<S.ras.length:=by rw[L.rlen];exact(List.getElem?_eq_some_iff.mp hru).1
    have hra:S.ras[n]?=some S.ras[n]:=List.getElem?_eq_getElem hnl
    generalize S.ras[n]=ra at hra
    have hok:=hwf.rul r (List.mem_of_getElem? hru)
    have aai:r.block<6:=by
     have z:=hok.op
     rw[R4] at z
     obtain⟨z1,_⟩:=(Bool.and_eq_true _ _).mp z
     have z1:=of_decide_eq_true z1
     have:mj r.op≤5:=by cases r.op<;>simp[mj]
     omega
    have L4:=L3.keep kp orow
    obtain⟨ce,so,kvs,Cd,hce,_,_⟩:=(L.rat n ra r hra hru).ex
    have WX:=Cd.mono L4.sub
    obtain⟨dx,ca,la,as,h1,h2,h3,h4,_⟩:=WX.ex
    have hce4:H4 ce=some (.lst (nv (Fs.wA s0.dims r.cond))):=L4.sub _ _ hce
    have hD4:=kp _ _ hD3 nD
    refine⟨_,rfl,l,_,_,_,_,rfl,L4.lang,T.aR,T.cF,lJ,_,rfl,S.ra,_,_,_,rfl,rfl,SqL.of L4.rules,at_of (j:=n) rfl (by rw[List.getElem?_map,hra];rfl),?_⟩
    have ek:Lw.take (i+1)=Lw.take i++[n]:=cI hn
    refine⟨_,rfl,ra,_,dx,_,_,rfl,h1,T.bC,T.rK,NZ,ce,rfl,⟨_,SqL.of hce4⟩,gY (K:=K) (a:=ce) (xs:=nv (Fs.wA s0.dims r.cond)) (fun m σ H'=>∃v3,σ=[some (.ref l),some (.int (k0:Nat)),some (.ref D),v3,some (.int (n:Nat)),some (.ref ra)]∧aL rows H4 H'∧
     ∀(j:Nat) c a,(Sx03.cells s0.dims)[j]?=some c→rows[j]?=some a→H' a=some (.lst ((if j∈(Fs.wA s0.dims r.cond).take m then Fs.rowOf s0 c (Lw.take (i+1)) else Fs.rowOf s0 c (Lw.take i)).map nO))) ?_ ?_ ?_ ?_⟩
    ·refine⟨_,rfl,aL.same (Same.refl _),fun j c a hc ha=>?_⟩
     rw[if_neg (by simp)]
     exact hrow j c a hc ha
    ·rintro m σ H' _ ⟨_,_,kp',_⟩
     exact SqL.of ((L4.keep kp' orow).sub _ _ hce)
    ·rintro m z2 σ H5 hz2 ⟨v3,rfl,kp',Sd⟩
     obtain⟨z3,hz3,rfl⟩:=bO hz2
     obtain⟨j0,hj0,rfl⟩:=bO hz3
     obtain⟨c0,hc0,hm0⟩:=Fs.zV.mp (List.mem_of_getElem? hj0)
     have hj0l:j0<rows.length:=by rw[hlen];exact(List.getElem?_eq_some_iff.mp hc0).1
     have ha0:rows[j0]?=some rows[j0]:=List.getElem?_eq_getElem hj0l
     generalize rows[j0]=a0 at ha0
     have L5:=L4.keep kp' orow
     have abp:=Cd.mono L5.sub
     obtain⟨dx5,ca5,la5,as5,g1,_⟩:=abp.ex
     have hD5:=kp' _ _ hD4 nD
     have hold:=Sd j0 c0 a0 hc0 ha0
     have hset:((if j0∈(Fs.wA s0.dims r.cond).take m then Fs.rowOf s0 c0 (Lw.take (i+1)) else Fs.rowOf s0 c0 (Lw.take i)).map nO).set r.block (.int (n:Nat))=(Fs.rowOf s0 c0 (Lw.take (i+1))).map nO:=by
      have e1:Fs.rowOf s0 c0 (Lw.take (i+1))=(Fs.rowOf s0 c0 (Lw.take i)).set r.block (some n):=by
       rw[ek,Fs.FW hru aai,if_pos hm0]
      show(List.map nO _).set r.block (nO (some n))=_
      rw[map_set]
      congr 1
      split
      ·rw[e1,List.set_set]
      ·rw[e1]
     have hlr:((if j0∈(Fs.wA s0.dims r.cond).take m then Fs.rowOf s0 c0 (Lw.take (i+1)) else Fs.rowOf s0 c0 (Lw.take i)).map nO).length=6:=by
      rw[List.length_map]
      split
      ·exact Fs.mV _ _ _
      ·exact Fs.mV _ _ _
     refine⟨_,rfl,_,rfl,_,rfl,D,_,_,_,rfl,rfl,SqL.of hD5,at_of (j:=j0) rfl (by rw[List.getElem?_map,ha0];rfl),_,rfl,ra,_,dx5,_,_,rfl,g1,T.bC,T.mL,Fl,a0,_,(r.block:Nat),r.block,rfl,rfl,hold,Yt (by rw[hlr];exact aai),?_⟩
     rw[hset]
     refine⟨_,rfl,fun b o e nb=>?_,fun j c a hc ha=>?_⟩
     ·rw[aJ (fun z=>nb (by rw[z];exact List.mem_of_getElem? ha0))]
      exact kp' b o e nb
     ·rw[cI hj0]
      by_cases e:j=j0
      ·subst e
       rw[hc0] at hc
       rw[ha0] at ha
       cases hc
       cases ha
       rw[aA,if_pos (by simp)]
      ·rw[aJ (fun z=>e (YS hN ha (by rw[z];exact ha0)))]
       have:=Sd j c a hc ha
       rw[this]
       congr 3
       by_cases q1:j∈(Fs.wA s0.dims r.cond).take m
       ·rw[if_pos q1,if_pos (List.mem_append_left _ q1)]
       ·rw[if_neg q1,if_neg (fun z=>(List.mem_append.mp z).elim q1 fun z=>e (List.mem_singleton.mp z))]
    ·rintro σ H5 ⟨v3,rfl,kp',Sd⟩
     refine⟨_,_,_,rfl,kp.trans kp',fun j c a hc ha=>?_⟩
     rw[Sd j c a hc ha]
     congr 3
     rw[List.length_map,List.length_map,List.take_length]
     by_cases q1:Sx03.meets r.cond c=true
     ·rw[if_pos (Fs.zV.mpr ⟨c,hc,q1⟩)]
     ·rw[if_neg (fun z=>by
       obtain⟨c',h1,h2⟩:=Fs.zV.mp z
       rw[hc] at h1
       cases h1
       exact q1 h2),ek,Fs.FW hru aai,if_neg q1]
   ·rintro σ H4 ⟨v3,v4,v5,rfl,kp,hrow⟩
    rw[List.length_map,List.length_map,List.take_length] at hrow
    have k04:aL [pt] H H4:=fun b o e nb=>kp b o (k3 b o (h02 _ _ e) nb) fun m=>by rw[aah b m] at e;cases e
    have T4:dM H4 pt:=T3.keep kp fun b hb u e=>by
     rw[hr3 b hb] at e
     cases e
     exact⟨fun ps q=>(nomatch q),fun φ q=>(nomatch q)⟩
    refine⟨_,rfl,k H4 D rows k04 T4 (hH1.free hD) aah ⟨kp _ _ hD3 nD,hlen,fun i c a hc ha=>?_⟩⟩
    rw[hrow i c a hc ha,Fs.QL hW]
    rfl
end
def GV(P:Program)(w:World)(K:PySem.W.Frag)(mg:Str→Option Value)(base:Heap)(f:Addr)(k:Nat)(ps:List Str)(sp:Sp):Prop:=
 ∃fd,bJ P w K mg base CX0 k f fd ps sp∧Binds K fd ps []∧PySem.W.keepIn K (.ref f)=true
theorem GV.fv{X:Cx}{f:Addr}{j k:Nat}{ps:List Str}{sp:Sp}(h:GV X.prog X.w X.K X.mg X.base f j ps sp)(q:j≤k):FV X k (.ref f) ps sp:=by
 obtain⟨fd,F,b,kp⟩:=h
 exact⟨f,fd,rfl,F.mono q,b,kp⟩
theorem FZ{xs:List V}{m:Nat}(h:m≤xs.length):jY xs none (some (m:Int))=xs.take m:=by
 unfold jY
 rw[HT.Mv,HT.Rw,List.drop_zero,Nat.sub_zero,Nat.min_eq_left h]
theorem yR{xs:List V}{m:Nat}(h:m≤xs.length):jY xs (some (m:Int)) none=xs.drop m:=by
 unfold jY
 rw[HT.Mv,HT.Rw,Nat.min_eq_left h,List.take_of_length_le (by rw[List.length_drop];exact Nat.le_refl _)]
theorem CW(l:List Nat)(m:Nat):(nv l).take m=nv (l.take m):=by rw[←List.map_take,←List.map_take]
theorem Yu(l:List Nat)(m:Nat):(nv l).drop m=nv (l.drop m):=by rw[←List.map_drop,←List.map_drop]
theorem kW(a b:List Nat):nv a++nv b=nv (a++b):=by
 show _=((a++b).map Int.ofNat).map V.int
 rw[List.map_append,List.map_append]
theorem bY(a:List Nat):(nv a).length=a.length:=by rw[List.length_map,List.length_map]
theorem itP{c A B:Prop}[Decidable c](hc:c)(h:A):if c then A else B:=by rw[if_pos hc];exact h
theorem itN{c A B:Prop}[Decidable c](hc: ¬c)(h:B):if c then A else B:=by rw[if_neg hc];exact h
def K6:Sx03.Op→Prop
 | .behind b=>b.length≤16
 | .ahead b=>b.length≤16
 | .instead _ b=>b.length≤16
 | .change a b=>a.length≤16∧b.length≤16
 |_=>True
theorem WY{ds:List Nat}{b:Nat}{op:Sx03.Op}(h:Sx03.opOk ds b op=true):K6 op:=by
 cases op<;>simp only[Sx03.opOk,Bool.and_eq_true,decide_eq_true_eq] at h<;>simp only[K6]<;>first|exact h.2|exact h.2.2|trivial
theorem iQ.list{cR:Addr}{H:Hp}{a:Addr}{k b:Int}{l:List Int}{op:Sx03.Op}{ce so:Addr}(h:iQ cR H a k b l op ce so): ∃(dx ca la:Addr) (as:List Addr),H a=some (.ins cR dx (uf k b ca (cT op) (yK op) la ce so))∧H la=some (.lst (as.map V.ref))∧
  ∀(j:Nat) xs,(bL op)[j]?=some xs→∃c,(as.map V.ref)[j]?=some (V.ref c)∧H c=some (.lst (iv xs)):=by
 obtain⟨dx,ca,la,as,h1,h2,h3,h4,_⟩:=h.ex
 refine⟨dx,ca,la,as,h1,h3,fun j xs hx=>?_⟩
 have hj:j<as.length:=by rw[h4.1];exact(List.getElem?_eq_some_iff.mp hx).1
 exact⟨as[j],by rw[List.getElem?_map,List.getElem?_eq_getElem hj];rfl,h4.2 j _ xs (List.getElem?_eq_getElem hj) hx⟩
section
variable{P:Program}{w:World}{K:PySem.W.Frag}{mg:Str→Option Value}{base:Heap}{au aD aj aH aK:Addr}{f:Addr}{fd:FuncData}
def iz(cR:Addr)(code:Int):Sp:=fun vs H Q _=>∃(fa ra:Addr) (k b:Int) (l:List Int) (op:Sx03.Op) (ce so:Addr) (z:List Nat),vs=[.ref fa,.ref ra]∧cT op=code∧H fa=some (.lst (nv z))∧iQ cR H ra k b l op ce so∧K6 op∧z.length≤1000∧
 (∀g,Sx03.done z op=some g→∀H' q,Same H H'→H' q=some (.lst (nv g))→Q (.ref q) H')∧(Sx03.done z op=none→∀H',Same H H'→Q .non H')
theorem Hr(F:Fun K "put_behind" "put_behind" qX f fd)(T:Txt K mg aD aK aH au aj):bJ P w K mg base CX0 1 f fd ["form","rule"] (iz aD 0):=by
 refine F.ok G6 (fun vs H Q E h=>?_) (fun cdv A outer s H vs Q E hr h=>?_)
 ·obtain⟨fa,ra,k,b,l,op,ce,so,z,rfl,_⟩:=h
  rfl
 ·obtain⟨fa,ra,kk,b,l,op,ce,so,z,rfl,hc,hf,hR,hsh,hz,k1,k2⟩:=h
  obtain⟨dx,ca,la,as,h1,h2,h3⟩:=hR.list
  refine⟨_,(aF (aP (dF jF (pv 0) (cJ bK (aW (pv 1) rfl) bB (fun _ _=>rfl))))),?_⟩
  cases op with
  |behind x=>
   obtain⟨c,c1,c2⟩:=h3 0 (bh x) rfl
   have hsh:x.length≤16:=hsh
   refine⟨_,rfl,_,rfl,ra,_,dx,_,_,rfl,h1,T.bC,T.dH,jV,la,_,_,_,rfl,rfl,SqL.of h2,at_of (j:=0) rfl c1,fa,c,_,_,rfl,rfl,hf,c2,?_,fun q hq=>?_⟩
   ·rw[bY,List.length_map,bU];exact gO (by omega)
   ·exact k1 _ rfl _ q (Same.new hq) (by rw[aA];exact congrArg (fun z=>some (HO.lst z)) (kW z x))
  |_=>exact absurd hc (by simp only[cT];decide)
theorem K7(F:Fun K "put_ahead" "put_ahead" uD f fd)(T:Txt K mg aD aK aH au aj):bJ P w K mg base CX0 1 f fd ["form","rule"] (iz aD 1):=by
 refine F.ok J4 (fun vs H Q E h=>?_) (fun cdv A outer s H vs Q E hr h=>?_)
 ·obtain⟨fa,ra,k,b,l,op,ce,so,z,rfl,_⟩:=h
  rfl
 ·obtain⟨fa,ra,kk,b,l,op,ce,so,z,rfl,hc,hf,hR,hsh,hz,k1,k2⟩:=h
  obtain⟨dx,ca,la,as,h1,h2,h3⟩:=hR.list
  refine⟨_,(aF (aP (dF jF (cJ bK (aW (pv 1) rfl) bB (fun _ _=>rfl)) (pv 0)))),?_⟩
  cases op with
  |ahead x=>
   obtain⟨c,c1,c2⟩:=h3 0 (bh x) rfl
   have hsh:x.length≤16:=hsh
   refine⟨_,rfl,ra,_,dx,_,_,rfl,h1,T.bC,T.dH,jV,la,_,_,_,rfl,rfl,SqL.of h2,at_of (j:=0) rfl c1,_,rfl,c,fa,_,_,rfl,rfl,c2,hf,?_,fun q hq=>?_⟩
   ·rw[bY,List.length_map,bU];exact gO (by omega)
   ·exact k1 _ rfl _ q (Same.new hq) (by rw[aA];exact congrArg (fun z=>some (HO.lst z)) (kW x z))
  |_=>exact absurd hc (by simp only[cT];decide)
theorem Hs(F:Fun K "change_end" "change_end" qY f fd)(T:Txt K mg aD aK aH au aj):bJ P w K mg base CX0 1 f fd ["form","rule"] (iz aD 2):=by
 refine F.ok wB (fun vs H Q E h=>?_) (fun cdv A outer s H vs Q E hr h=>?_)
 ·obtain⟨fa,ra,k,b,l,op,ce,so,z,rfl,_⟩:=h
  rfl
 ·obtain⟨fa,ra,kk,b,l,op,ce,so,z,rfl,hc,hf,hR,hsh,hz,k1,k2⟩:=h
  obtain⟨dx,ca,la,as,h1,h2,h3⟩:=hR.list
  refine⟨_,(aB (aX (i:=2) wB.nd rfl (by first|exact Or.inl rfl|exact Or.inr rfl) (dF lK (bA aV (by rfl) T.cV PySem.boot_len (ak (pv 0) aC)) (aW (pv 1) rfl)))
   (aB (bI (aY mW (pv 2) bB (bx _)) (aF (aP dW)) aZ)
   (aF (aP (dF jF (iZ kZ (pv 0) mF (jE (pv 2))) (cJ bK (aW (pv 1) rfl) bB (fun _ _=>rfl))))))),?_⟩
  cases op with
  |instead n x=>
   obtain⟨c,c1,c2⟩:=h3 0 (bh x) rfl
   have hsh:x.length≤16:=hsh
   refine⟨_,rfl,fa,_,rfl,.inl (SqL.of hf),_,rfl,ra,_,dx,_,_,rfl,h1,T.bC,T.dG,kE,_,_,rfl,rfl,_,rfl,_,_,rfl,rfl,_,rfl,gA (fun d=>?_) (fun d=>?_)⟩
   ·have d:(((nv z).length:Nat):Int) - (n:Int)<0:=of_decide_eq_true d
    rw[bY] at d
    exact k2 (if_pos (by omega)) H (Same.refl H)
   ·have d: ¬(((nv z).length:Nat):Int) - (n:Int)<0:=fun q=>d (decide_eq_true q)
    rw[bY] at d
    have e:Sx03.done z (.instead n x)=some (z.take (z.length - n)++x):=if_neg (by omega)
    refine⟨_,rfl,_,rfl,_,rfl,fa,_,rfl,SqL.of hf,fun p hp=>?_⟩
    have e2:jY (nv z) none (some ((((nv z).length:Nat):Int) - (n:Int)))=nv (z.take (z.length - n)):=by
     rw[bY,show((z.length:Nat):Int) - (n:Int)=((z.length - n:Nat):Int) by omega,FZ (by rw[bY];omega),CW]
    have e2:jY (nv z) none (some ((((nv z).length:Nat):Int) - (n:Int)))=nv (z.take (z.length - n)):=e2
    have sp:=Same.new (o:=HO.lst (jY (nv z) none (some ((((nv z).length:Nat):Int) - (n:Int))))) hp
    refine⟨_,rfl,ra,_,dx,_,_,rfl,sp _ _ h1,T.bC,T.dH,jV,la,_,_,_,rfl,rfl,SqL.of (sp _ _ h2),at_of (j:=0) rfl c1,p,c,_,_,rfl,rfl,aA,sp _ _ c2,?_,fun q hq=>?_⟩
    ·show(jY (nv z) none (some ((((nv z).length:Nat):Int) - (n:Int)))).length+(iv (bh x)).length≤sizeLine
     rw[e2,bY,List.length_take,List.length_map,bU]
     exact gO (by omega)
    ·refine k1 _ e _ q (sp.trans (Same.new hq)) ?_
     rw[aA]
     show some (HO.lst (jY (nv z) none (some ((((nv z).length:Nat):Int) - (n:Int)))++iv (bh x)))=_
     rw[e2]
     exact congrArg (fun z=>some (HO.lst z)) (kW _ x)
  |_=>exact absurd hc (by simp only[cT];decide)
theorem Ce(F:Fun K "repeat_start" "repeat_start" m7 f fd)(T:Txt K mg aD aK aH au aj):bJ P w K mg base CX0 1 f fd ["form","rule"] (iz aD 4):=by
 refine F.ok BX (fun vs H Q E h=>?_) (fun cdv A outer s H vs Q E hr h=>?_)
 ·obtain⟨fa,ra,k,b,l,op,ce,so,z,rfl,_⟩:=h
  rfl
 ·obtain⟨fa,ra,kk,b,l,op,ce,so,z,rfl,hc,hf,hR,hsh,hz,k1,k2⟩:=h
  obtain⟨dx,ca,la,as,h1,h2,h3⟩:=hR.list
  refine⟨_,(aB (bI (aY mW (bA aV (by rfl) T.cV PySem.boot_len (ak (pv 0) aC)) (aW (pv 1) rfl) (bx _)) (aF (aP dW)) aZ)
   (aF (aP (dF jF (iZ kZ (pv 0) mF (jE (aW (pv 1) rfl))) (pv 0))))),?_⟩
  cases op with
  |twice n=>
   refine⟨_,rfl,fa,_,rfl,.inl (SqL.of hf),_,rfl,ra,_,dx,_,_,rfl,h1,T.bC,T.dG,kE,_,_,rfl,rfl,_,rfl,gA (fun d=>?_) (fun d=>?_)⟩
   ·have d:(((nv z).length:Nat):Int)<(n:Int):=of_decide_eq_true d
    rw[bY] at d
    exact k2 (if_pos (by omega)) H (Same.refl H)
   ·have d: ¬(((nv z).length:Nat):Int)<(n:Int):=fun q=>d (decide_eq_true q)
    rw[bY] at d
    have e:Sx03.done z (.twice n)=some (z.take n++z):=if_neg (by omega)
    have e2:jY (nv z) none (some (n:Int))=nv (z.take n):=by rw[FZ (by rw[bY];omega),CW]
    refine⟨_,rfl,_,rfl,ra,_,dx,_,_,rfl,h1,T.bC,T.dG,kE,_,rfl,fa,_,rfl,SqL.of hf,fun p hp=>?_⟩
    have sp:=Same.new (o:=HO.lst (jY (nv z) none (some (n:Int)))) hp
    refine⟨_,rfl,p,fa,_,_,rfl,rfl,aA,sp _ _ hf,?_,fun q hq=>?_⟩
    ·show(jY (nv z) none (some (n:Int))).length+(nv z).length≤sizeLine
     rw[e2,bY,bY,List.length_take]
     exact gO (by omega)
    ·refine k1 _ e _ q (sp.trans (Same.new hq)) ?_
     rw[aA]
     show some (HO.lst (jY (nv z) none (some (n:Int))++nv z))=_
     rw[e2,kW]
  |_=>exact absurd hc (by simp only[cT];decide)
theorem Oo{a z:List Nat}(h: ∀i,i<z.length→a.contains (z.getD i 0)=false):Sx03.lastOf a z=none:=by
 unfold Sx03.lastOf
 rw[List.find?_eq_none]
 intro i hi
 rw[h i (by simpa using hi)]
 decide
theorem Oq{a z:List Nat}{i:Nat}(hi:i<z.length)(h:a.contains (z.getD i 0)=true)(hn: ∀j,i<j→j<z.length→a.contains (z.getD j 0)=false):Sx03.lastOf a z=some i:=by
 unfold Sx03.lastOf
 have e:List.range z.length=List.range i++i::List.range' (i+1) (z.length - i - 1):=by
  have z1:=List.range'_append (s:=0) (m:=i) (n:=z.length - i) (step:=1)
  rw[show 0+1 * i=i by omega,show i+(z.length - i)=z.length by omega] at z1
  rw[List.range_eq_range',List.range_eq_range',←z1]
  congr 1
  rw[show z.length - i=(z.length - i - 1)+1 by omega,List.range'_succ]
  rfl
 rw[e,List.reverse_append,List.reverse_cons,List.find?_append,List.find?_append]
 have e2:(List.range' (i+1) (z.length - i - 1)).reverse.find? (fun i=>a.contains (z.getD i 0))=none:=by
  rw[List.find?_eq_none]
  intro j hj
  have hj:j∈List.range' (i+1) (z.length - i - 1):=by simpa using hj
  obtain⟨m,hm,rfl⟩:=List.mem_range'.mp hj
  rw[hn _ (by omega) (by omega)]
  decide
 rw[e2,List.find?_cons,h]
 rfl
theorem yS(F:Fun K "change_last_of" "change_last_of" j7 f fd)(T:Txt K mg aD aK aH au aj):bJ P w K mg base CX0 1 f fd ["form","rule"] (iz aD 3):=by
 refine F.ok jM (fun vs H Q E h=>?_) (fun cdv A outer s H vs Q E hr h=>?_)
 ·obtain⟨fa,ra,k,b,l,op,ce,so,z,rfl,_⟩:=h
  rfl
 ·obtain⟨fa,ra,kk,b,l,op,ce,so,z,rfl,hc,hf,hR,hsh,hz,k1,k2⟩:=h
  obtain⟨dx,ca,la,as,h1,h2,h3⟩:=hR.list
  refine⟨_,(aB (aX (i:=2) jM.nd rfl (by first|exact Or.inl rfl|exact Or.inr rfl) (dF lK (bA aV (by rfl) T.cV PySem.boot_len (ak (pv 0) aC)) bB))
   (aB (pY PassesOwn.never (wK (aY Mr (pv 2) bB (bx _)) (qL (aY qO (cJ bK (pv 0) (pv 2) (fun _ _=>rfl)) (cJ bK (aW (pv 1) rfl) bB (fun _ _=>rfl)) rfl))).pt
   (aF (zH (i:=2) jM.nd rfl (by first|exact Or.inl rfl|exact Or.inr rfl) bB Px)))
   (aB (bI (aY mW (pv 2) bB (bx _)) (aF (aP (pv 0))) aZ)
   (aF (aP (dF jF (dF jF (iZ kZ (pv 0) mF (jE (pv 2))) (cJ bK (aW (pv 1) rfl) bB (fun _ _=>rfl))) (iZ kZ (pv 0) (jE (dF Jv (pv 2) bB)) mF))))))),?_⟩
  cases op with
  |change x y=>
   obtain⟨c,c1,c2⟩:=h3 0 (bh x) rfl
   obtain⟨d,d1,d2⟩:=h3 1 (bh y) rfl
   have hsh:x.length≤16∧y.length≤16:=hsh
   refine⟨_,rfl,fa,_,rfl,.inl (SqL.of hf),_,_,rfl,rfl,?_⟩
   refine⟨fun m σ H'=>σ=[some (.ref fa),some (.ref ra),some (.int ((m:Int) - 1))]∧Same H H'∧m≤z.length∧∀i,m≤i→i<z.length→x.contains (z.getD i 0)=false,⟨z.length,?_,Same.refl H,Nat.le_refl _,fun i h1 h2=>absurd h2 (by omega)⟩,?_⟩
   ·show[some (V.ref fa),some (V.ref ra),some (V.int ((((nv z).length:Nat):Int) - 1))]=_
    rw[bY]
   rintro m σ H1 ⟨rfl,hH,hm,hno⟩
   cases m with
   |zero=>
    refine⟨_,rfl,_,_,rfl,rfl,_,rfl,?_⟩
    refine cA (cA ?_)
    refine⟨_,rfl,_,_,rfl,rfl,_,rfl,?_⟩
    refine cB ⟨_,rfl,?_⟩
    have e:Sx03.done z (.change x y)=some z:=by
     show(match Sx03.lastOf x z with
      |some i=>some (z.take i++(y++z.drop (i+1)))
      |none=>some z)=some z
     rw[Oo fun i hi=>hno i (Nat.zero_le i) hi]
    exact k1 _ e _ fa hH (hH _ _ hf)
   |succ i=>
    have hi:i<z.length:=hm
    have e0:((i+1:Nat):Int) - 1=(i:Int):=by omega
    rw[e0]
    have hz1:(nv z)[i]?=some (.int (z.getD i 0:Nat)):=by
     rw[List.getElem?_map,List.getElem?_map,List.getD_eq_getElem?_getD,List.getElem?_eq_getElem hi];rfl
    refine⟨_,rfl,_,_,rfl,rfl,_,rfl,?_⟩
    refine itP (by rw[decide_eq_true_eq];omega) ?_
    have aaj:(if true=true then !inV (.int ((z.getD i 0:Nat):Int)) (iv (bh x)) else inV (.int ((z.getD i 0:Nat):Int)) (iv (bh x)))= !x.contains (z.getD i 0):=by
     rw[if_pos rfl,Ke]
     congr 1
     rw[Bool.eq_iff_iff,decide_eq_true_eq,List.contains_iff_mem]
     unfold bh
     rw[List.mem_map]
     constructor
     ·rintro⟨n,hn,e⟩
      have e:(n:Int)=(z.getD i 0:Nat):=e
      have e:n=z.getD i 0:=by omega
      rw[←e];exact hn
     ·intro hn
      exact⟨_,hn,rfl⟩
    refine⟨_,rfl,_,rfl,fa,_,_,_,rfl,rfl,SqL.of (hH _ _ hf),at_of (j:=i) rfl hz1,_,rfl,ra,_,dx,_,_,rfl,hH _ _ h1,T.bC,T.dH,jV,la,_,_,_,rfl,rfl,SqL.of (hH _ _ h2),at_of (j:=0) rfl c1,c,_,rfl,.inl (SqL.of (hH _ _ c2)),rfl,yJ _,_,rfl,?_⟩
    rw[aaj]
    cases hcon:x.contains (z.getD i 0) with
    |false=>
     refine cB ⟨fun σ' H'=>σ'=[some (.ref fa),some (.ref ra),some (.int ((i:Int) - 1))]∧Same H H',?_,?_⟩
     ·rintro σ' H' ⟨rfl,hH'⟩
      refine⟨i,by omega,rfl,hH',by omega,fun j hj hjl=>?_⟩
      by_cases q:j=i
      ·rw[q];exact hcon
      ·exact hno j (by omega) hjl
     ·exact⟨_,rfl,_,_,rfl,rfl,rfl,hH⟩
    |true=>
     refine cA ?_
     refine⟨_,rfl,_,_,rfl,rfl,_,rfl,?_⟩
     refine itN (by rw[decide_eq_true_eq];omega) ?_
     have e:Sx03.done z (.change x y)=some (z.take i++(y++z.drop (i+1))):=by
      show(match Sx03.lastOf x z with
       |some i=>some (z.take i++(y++z.drop (i+1)))
       |none=>some z)=_
      rw[Oq hi hcon fun j hj hjl=>hno j (by omega) hjl]
     have e2:jY (nv z) none (some (i:Int))=nv (z.take i):=by rw[FZ (by rw[bY];omega),CW]
     have e3:jY (nv z) (some ((i:Int)+1)) none=nv (z.drop (i+1)):=by
      rw[show(i:Int)+1=((i+1:Nat):Int) by omega,yR (by rw[bY];omega),Yu]
     refine⟨_,rfl,_,rfl,_,rfl,fa,_,rfl,SqL.of (hH _ _ hf),fun p hp=>?_⟩
     have sp:=hH.trans (Same.new (o:=HO.lst (jY (nv z) none (some (i:Int)))) hp)
     refine⟨_,rfl,ra,_,dx,_,_,rfl,sp _ _ h1,T.bC,T.dH,jV,la,_,_,_,rfl,rfl,SqL.of (sp _ _ h2),at_of (j:=1) rfl d1,p,d,_,_,rfl,rfl,aA,sp _ _ d2,?_,fun q hq=>?_⟩
     ·rw[e2,bY,List.length_take,List.length_map,bU];exact gO (by omega)
     rw[e2] at hq sp⊢
     have sq:=sp.trans (Same.new (o:=HO.lst (nv (z.take i)++iv (bh y))) hq)
     refine⟨_,rfl,_,rfl,_,_,rfl,rfl,_,rfl,fa,_,rfl,SqL.of (sq _ _ hf),fun q2 hq2=>?_⟩
     have nq:=bw hq2
     refine⟨q,q2,_,_,rfl,rfl,(by rw[aJ (Ne.symm nq.1),aA]),aA,?_,fun q3 hq3=>?_⟩
     ·rw[e3,bY,List.length_append,bY,List.length_take,List.length_map,bU,List.length_drop];exact gO (by omega)
     ·refine k1 _ e _ q3 ((sq.trans (Same.new hq2)).trans (Same.new hq3)) ?_
      rw[aA,e3]
      refine congrArg (fun z=>some (HO.lst z)) ?_
      show(nv (z.take i)++nv y)++nv (z.drop (i+1))=_
      rw[List.append_assoc,kW,kW]
  |_=>exact absurd hc (by simp only[cT];decide)
end
def sY(H:Hp)(v:V):Option Sx03.Bytes→Prop
 |none=>v= .non
 |some b=>∃q,v= .ref q∧H q=some (.lst (nv b))
theorem sY.same{H H':Hp}(s:Same H H'){v:V}: ∀{f:Option Sx03.Bytes},sY H v f→sY H' v f
 |none,h=>h
 |some _,⟨q,e,h⟩=>⟨q,e,s _ _ h⟩
def bZ:Sx03.Got→List Int
 | .form b=>1::bh b
 | .gap=>[0]
 | .ring=>[2]
def Sg:Option Sx03.Bytes→Sx03.Got
 |none=> .gap
 |some b=> .form b
def yU(H:Hp)(sa:Addr)(ts:List Sx03.Bytes):Prop:=∃as,H sa=some (.lst (as.map V.ref))∧bD H as (ts.map bh)
theorem yU.get{H:Hp}{as:List Addr}{ts:List Sx03.Bytes}(h:bD H as (ts.map bh)){j:Nat}{b:Sx03.Bytes}(e:ts[j]?=some b): ∃a,(as.map V.ref)[j]?=some (.ref a)∧H a=some (.lst (nv b)):=by
 have e2:(ts.map bh)[j]?=some (bh b):=by rw[List.getElem?_map,e];rfl
 have hj:j<as.length:=by rw[h.1];exact(List.getElem?_eq_some_iff.mp e2).1
 exact⟨as[j],by rw[List.getElem?_map,List.getElem?_eq_getElem hj];rfl,h.2 j _ _ (List.getElem?_eq_getElem hj) e2⟩
def Ai(s:Sx03.St)(w:Sx03.Word)(c:Sx03.Cell):Nat→Option Sx03.Bytes
 |0=>s.stemOf w c
 |i+1=>(Ai s w c i).bind (Fs.gR s w c (i+2))
theorem Gd{s:Sx03.St}(h:Fs.Wf s){w:Sx03.Word}(hw:Sx03.stemsOk w.stems=true){c:Sx03.Cell}: ∀{i:Nat} {b:Sx03.Bytes},Ai s w c i=some b→b.length≤32+16 * i
 |0,b,e=>Fs.Ef hw e
 |i+1,b,e=>by
  obtain⟨b1,e1,e2⟩:=Option.bind_eq_some_iff.mp e
  have:=Gd h hw e1
  have:=Fs.lE h e2
  omega
theorem vO{s:Sx03.St}{k:Nat}{c:Sx03.Cell}{b:Nat}(h:b<6):((jr s k c).map nO)[b]?=some (nO ((s.winner k b c).map (·.2))):=by
 unfold jr
 rw[List.getElem?_map,List.getElem?_map,List.getElem?_range h]
 rfl
theorem kY(s:Sx03.St)(k:Nat)(c:Sx03.Cell):((jr s k c).map nO).length=6:=rfl
section
variable{P:Program}{w:World}{K:PySem.W.Frag}{mg:Str→Option Value}{base:Heap}{au aD aj aH aK:Addr}{f:Addr}{fd:FuncData}
def QV(cL cR cW:Addr):Sp:=fun vs H Q _=>∃(l sa:Addr) (s:Sx03.St) (t:Nat) (S:Sh) (wd:Sx03.Word) (c:Sx03.Cell),vs=[.ref S.ra,.ref sa,nO ((s.winner wd.cls 1 c).map (·.2))]∧LAt cL cR cW H l s t S∧Fs.Wf s∧yU H sa wd.stems∧Sx03.stemsOk wd.stems=true∧
 ∀H' v,Same H H'→sY H' v (s.stemOf wd c)→Q v H'
theorem K8(F:Fun K "find_stem" "find_stem" uF f fd)(T:Txt K mg aD aK aH au aj):bJ P w K mg base CX0 1 f fd ["rules","stems","number"] (QV aj aD aH):=by
 refine F.ok yC (fun vs H Q E h=>?_) (fun cdv A outer s H vs Q E hr h=>?_)
 ·obtain⟨l,sa,s,t,S,wd,c,rfl,_⟩:=h
  rfl
 ·obtain⟨l,sa,s0,t,S,wd,c,rfl,L,hwf,⟨as,hs1,hs2⟩,hst,k⟩:=h
  have h1l:1≤wd.stems.length:=by
   unfold Sx03.stemsOk at hst
   exact of_decide_eq_true ((Bool.and_eq_true _ _).mp hst).1
  have hal:as.length=wd.stems.length:=by rw[hs2.1,List.length_map]
  refine⟨_,(aB (bI (aY zK (pv 2) dW (bx _)) (aF (aP (cJ bK (pv 1) bB (fun _ _=>rfl)))) aZ)
   (aB (aX (i:=3) yC.nd rfl (by first|exact Or.inl rfl|exact Or.inr rfl) (aW (cJ bK (pv 0) (pv 2) (fun _ _=>rfl)) rfl))
   (aB (bI (aY Mr (pv 3) (bA aV (by rfl) T.cV PySem.boot_len (ak (pv 1) aC)) (bx _)) (aF (aP dW)) aZ)
   (aF (aP (cJ bK (pv 1) (pv 3) (fun _ _=>rfl))))))),?_⟩
  cases hx:s0.winner wd.cls 1 c with
  |none=>
   have e0:wd.stems[0]?=some wd.stems[0]:=List.getElem?_eq_getElem _
   obtain⟨a,a1,a2⟩:=yU.get hs2 e0
   refine⟨_,rfl,rfl,_,rfl,cB ?_⟩
   refine⟨_,rfl,sa,_,_,_,rfl,rfl,SqL.of hs1,at_of (j:=0) rfl a1,?_⟩
   refine k H _ (Same.refl H) ?_
   have e:s0.stemOf wd c=some wd.stems[0]:=by
    unfold Sx03.St.stemOf
    rw[hx];exact e0
   rw[e]
   exact⟨a,rfl,a2⟩
  |some x=>
   obtain⟨hr1,hb,_,_,hok⟩:=Fs.oA hwf hx
   have hnl:x.2<S.ras.length:=by rw[L.rlen];exact(List.getElem?_eq_some_iff.mp hr1).1
   have hra:S.ras[x.2]?=some S.ras[x.2]:=List.getElem?_eq_getElem hnl
   generalize S.ras[x.2]=ra at hra
   obtain⟨ce,so,kvs,Cd,_⟩:=(L.rat x.2 ra x.1 hra hr1).ex
   obtain⟨dx,ca,la,as',h1,_⟩:=(Cd.mono L.sub).ex
   have hop:=hok.op
   rw[hb] at hop
   obtain⟨j,hj⟩: ∃j,x.1.op= .stem j:=by
    cases e:x.1.op<;>rw[e] at hop<;>first|exact⟨_,rfl⟩|(simp[Sx03.opOk] at hop)
   have e:s0.stemOf wd c=wd.stems[j]?:=by
    unfold Sx03.St.stemOf
    rw[hx]
    show(match x.1.op with
     | .stem j=>wd.stems[j]?
     |_=>none)=_
    rw[hj]
   rw[e] at k
   have hnum:yK x.1.op=(j:Int):=by rw[hj];rfl
   rw[hnum] at h1
   refine⟨_,rfl,rfl,_,rfl,cA ?_⟩
   refine⟨_,rfl,_,rfl,S.ra,_,_,_,rfl,rfl,SqL.of L.rules,at_of (j:=x.2) rfl (by rw[List.getElem?_map,hra];rfl),ra,_,dx,_,_,rfl,h1,T.bC,T.dG,kE,?_⟩
   refine⟨_,rfl,_,rfl,sa,_,rfl,.inl (SqL.of hs1),_,_,rfl,rfl,_,rfl,gA (fun d=>?_) (fun d=>?_)⟩
   ·have d:(((as.map V.ref).length:Nat):Int)≤(j:Int):=of_decide_eq_true d
    rw[List.length_map] at d
    rw[List.getElem?_eq_none_iff.mpr (show wd.stems.length≤j by omega)] at k
    exact k H _ (Same.refl H) rfl
   ·have d: ¬(((as.map V.ref).length:Nat):Int)≤(j:Int):=fun q=>d (decide_eq_true q)
    rw[List.length_map] at d
    have hjl:j<wd.stems.length:=by omega
    have e0:wd.stems[j]?=some wd.stems[j]:=List.getElem?_eq_getElem hjl
    obtain⟨a,a1,a2⟩:=yU.get hs2 e0
    rw[e0] at k
    refine⟨_,rfl,_,rfl,sa,_,_,_,rfl,rfl,SqL.of hs1,at_of (j:=j) rfl a1,?_⟩
    exact k H _ (Same.refl H) ⟨a,rfl,a2⟩
def QW(cL cR cW:Addr):Sp:=fun vs H Q _=>∃(l sa fa:Addr) (s:Sx03.St) (t:Nat) (S:Sh) (wd:Sx03.Word) (c:Sx03.Cell),vs=[.ref S.ra,.ref sa,.ref fa]∧LAt cL cR cW H l s t S∧Fs.Wf s∧yU H sa wd.stems∧Sx03.stemsOk wd.stems=true∧H fa=some (.lst ((jr s wd.cls c).map nO))∧
 ∀H' v,Same H H'→sY H' v (s.made wd c)→Q v H'
theorem K9(F:Fun K "make_form" "make_form" uE f fd)(T:Txt K mg aD aK aH au aj){f0 f1 f2 f3 f4:Addr}(Aj:GT K mg "CHANGES" [.ref f0,.ref f1,.ref f2,.ref f3,.ref f4])(vo:GF P w K mg base "find_stem" 1 ["rules","stems","number"] (QV aj aD aH))
  (V0:GV P w K mg base f0 1 ["form","rule"] (iz aD 0)) (V1:GV P w K mg base f1 1 ["form","rule"] (iz aD 1)) (V2:GV P w K mg base f2 1 ["form","rule"] (iz aD 2))
  (V3:GV P w K mg base f3 1 ["form","rule"] (iz aD 3)) (V4:GV P w K mg base f4 1 ["form","rule"] (iz aD 4)):bJ P w K mg base CX0 2 f fd ["rules","stems","followed"] (QW aj aD aH):=by
 refine F.ok jN (fun vs H Q E h=>?_) (fun cdv A outer s H vs Q E hr h=>?_)
 ·obtain⟨l,sa,fa,s,t,S,wd,c,rfl,_⟩:=h
  rfl
 ·obtain⟨l,sa,fa,s0,t,S,wd,c,rfl,L,hwf,hS,hst,hfa,k⟩:=h
  refine⟨_,(aB (aX (i:=3) jN.nd rfl (by first|exact Or.inl rfl|exact Or.inr rfl) (aQ vo (hr.mono (by decide)) (ak (pv 0) (ak (pv 1) (ak (cJ bK (pv 2) bB (fun _ _=>rfl)) aC)))))
   (aB (dU PassesOwn.never rfl (eV (iZ kZ (pv 2) (jE bB) mF)) (bF (i:=4) jN.nd rfl (by first|exact Or.inl rfl|exact Or.inr rfl))
   (aF (bI (wK (aY mD (pv 3) dW (bx _)) (qL (aY mD (pv 4) dW (bx _)))).pt (aB (aX (i:=5) jN.nd rfl (by first|exact Or.inl rfl|exact Or.inr rfl) (cJ bK (pv 0) (pv 4) (fun _ _=>rfl)))
   (aF (aX (i:=3) jN.nd rfl (by first|exact Or.inl rfl|exact Or.inr rfl) (DQ (cJ tZ (wu Aj) (aW (pv 5) rfl) (fun _ _=>rfl)) hr (ak (pv 3) (ak (pv 5) aC)))))) aZ)))
   (aF (aP (pv 3))))),?_⟩
  refine⟨_,rfl,_,rfl,_,rfl,fa,_,_,_,rfl,rfl,SqL.of hfa,at_of (j:=1) rfl (vO (by decide)),l,sa,s0,t,S,wd,c,rfl,L,hwf,hS,hst,fun H1 v hH1 hv=>?_⟩
  refine⟨_,rfl,_,rfl,fa,_,rfl,SqL.of (hH1 _ _ hfa),fun p hp=>?_⟩
  have aak:jY ((jr s0 wd.cls c).map nO) (some 2) none=((jr s0 wd.cls c).map nO).drop 2:=yR (m:=2) (by rw[kY];decide)
  rw[aak]
  have hH2:=hH1.trans (Same.new (o:=HO.lst (((jr s0 wd.cls c).map nO).drop 2)) hp)
  refine⟨p,rfl,⟨_,SqL.of aA⟩,gY (K:=K) (a:=p) (xs:=((jr s0 wd.cls c).map nO).drop 2) (fun i σ H'=>∃fv v4 v5,σ=[some (.ref S.ra),some (.ref sa),some (.ref fa),some fv,v4,v5]∧Same H H'∧H' p=some (.lst (((jr s0 wd.cls c).map nO).drop 2))∧sY H' fv (Ai s0 wd c i)) ?_ ?_ ?_ ?_⟩
  ·exact⟨v,_,_,rfl,hH2,aA,hv.same (Same.new hp)⟩
  ·rintro i σ H' _ ⟨_,_,_,_,_,hp',_⟩
   exact SqL.of hp'
  ·rintro i z σ H3 hz ⟨fv,v4,v5,rfl,hH3,hp3,hf3⟩
   rw[List.getElem?_drop] at hz
   have hi:2+i<6:=by
    have:=(List.getElem?_eq_some_iff.mp hz).1
    rw[kY] at this
    exact this
   rw[vO hi,Nat.add_comm] at hz
   injection hz with hz
   subst hz
   have em:Ai s0 wd c (i+1)=(Ai s0 wd c i).bind (Fs.gR s0 wd c (i+2)):=rfl
   cases eu:Ai s0 wd c i with
   |none=>
    rw[eu] at hf3 em
    have hf3:fv= .non:=hf3
    subst hf3
    refine⟨_,rfl,rfl,_,rfl,cA (cA ?_)⟩
    exact⟨_,_,_,rfl,hH3,hp3,by rw[em];rfl⟩
   |some b=>
    have hbl:=Gd hwf hst eu
    rw[eu] at hf3 em
    obtain⟨q,rfl,hq⟩:=hf3
    refine⟨_,rfl,rfl,_,rfl,cB ?_⟩
    cases hx:s0.winner wd.cls (i+2) c with
    |none=>
     refine⟨_,rfl,rfl,_,rfl,cA ?_⟩
     refine⟨_,_,_,rfl,hH3,hp3,?_⟩
     rw[em]
     show sY H3 (.ref q) (Fs.gR s0 wd c (i+2) b)
     unfold Fs.gR
     rw[hx]
     exact⟨q,rfl,hq⟩
    |some x=>
     obtain⟨hr1,hb,_,_,hok⟩:=Fs.oA hwf hx
     have hnl:x.2<S.ras.length:=by rw[L.rlen];exact(List.getElem?_eq_some_iff.mp hr1).1
     have hra:S.ras[x.2]?=some S.ras[x.2]:=List.getElem?_eq_getElem hnl
     generalize S.ras[x.2]=ra at hra
     have L3:=L.same hH3
     obtain⟨ce,so,kvs,Cd,_⟩:=(L.rat x.2 ra x.1 hra hr1).ex
     have Y6:=Cd.mono L3.sub
     obtain⟨dx,ca,la,as',h1,_⟩:=Y6.ex
     have hop:=hok.op
     have hsh:=WY hop
     rw[hb] at hop
     obtain⟨fj,j,V,e1,e2⟩: ∃(fj:Addr) (j:Nat),GV P w K mg base fj 1 ["form","rule"] (iz aD (j:Int))∧[V.ref f0,V.ref f1,V.ref f2,V.ref f3,V.ref f4][j]?=some (V.ref fj)∧cT x.1.op=(j:Int):=by
      cases e:x.1.op with
      |behind _=>exact⟨f0,0,V0,rfl,rfl⟩
      |ahead _=>exact⟨f1,1,V1,rfl,rfl⟩
      |instead _ _=>exact⟨f2,2,V2,rfl,rfl⟩
      |change _ _=>exact⟨f3,3,V3,rfl,rfl⟩
      |twice _=>exact⟨f4,4,V4,rfl,rfl⟩
      |stem j=>rw[e] at hop;simp[Sx03.opOk] at hop
      |refer l=>rw[e] at hop;simp[Sx03.opOk] at hop
      |gap=>rw[e] at hop;simp[Sx03.opOk] at hop
     refine⟨_,rfl,rfl,_,rfl,cB ?_⟩
     refine⟨_,rfl,_,rfl,S.ra,_,_,_,rfl,rfl,SqL.of L3.rules,at_of (j:=x.2) rfl (by rw[List.getElem?_map,hra];rfl),?_⟩
     intro ta hta
     refine⟨_,rfl,ra,_,dx,_,_,rfl,h1,T.bC,T.fJ,nG,ta,_,_,.ref fj,rfl,rfl,hta H3,at_of (j:=j) e2 e1,_,iz aD (j:Int),V.fv (by decide),_,rfl,_,rfl,q,ra,_,_,_,x.1.op,ce,so,b,rfl,e2,hq,Y6,hsh,by omega,?_,?_⟩
     ·intro g hg H4 q4 hH4 hq4
      refine⟨_,_,_,rfl,hH3.trans hH4,hH4 _ _ hp3,?_⟩
      rw[em]
      show sY H4 (.ref q4) (Fs.gR s0 wd c (i+2) b)
      unfold Fs.gR
      rw[hx]
      show sY H4 (.ref q4) (Sx03.done b x.1.op)
      rw[hg]
      exact⟨q4,rfl,hq4⟩
     ·intro hg H4 hH4
      refine⟨_,_,_,rfl,hH3.trans hH4,hH4 _ _ hp3,?_⟩
      rw[em]
      show sY H4 .non (Fs.gR s0 wd c (i+2) b)
      unfold Fs.gR
      rw[hx]
      show sY H4 .non (Sx03.done b x.1.op)
      rw[hg]
      rfl
  ·rintro σ H3 ⟨fv,v4,v5,rfl,hH3,hp3,hf3⟩
   rw[List.length_drop,kY] at hf3
   exact⟨_,rfl,k H3 fv hH3 hf3⟩
def Ge:Sp:=fun vs H Q _=>∃(v:V) (b:Option Sx03.Bytes),vs=[v]∧sY H v b∧(∀z,b=some z→z.length≤1000)∧∀H' q,Same H H'→H q=none→H' q=some (.lst (iv (bZ (Sg b))))→Q (.ref q) H'
theorem La(F:Fun K "tell_form" "tell_form" uL f fd)(T:Txt K mg aD aK aH au aj):bJ P w K mg base CX0 1 f fd ["form"] (Ge):=by
 refine F.ok J7 (fun vs H Q E h=>?_) (fun cdv A outer s H vs Q E hr h=>?_)
 ·obtain⟨v,b,rfl,_⟩:=h
  rfl
 ·obtain⟨v,b,rfl,hv,hl,k⟩:=h
  refine⟨_,(aB (bI (aY zK (pv 0) dW (bx _)) (aF (aP (bG (ak (bW T.iK) aC)))) aZ)
   (aF (aP (dF jF (bG (ak (bW T.lA) aC)) (pv 0))))),?_⟩
  cases b with
  |none=>
   have hv:v= .non:=hv
   subst hv
   refine⟨_,rfl,rfl,_,rfl,cB ?_⟩
   refine⟨(by show 1≤sizeLine;decide),fun p hp=>?_⟩
   exact k _ p (Same.new hp) hp aA
  |some z=>
   obtain⟨a,rfl,ha⟩:=hv
   have hz:=hl z rfl
   refine⟨_,rfl,rfl,_,rfl,cA ?_⟩
   refine⟨(by show 1≤sizeLine;decide),fun p hp=>?_⟩
   have s1:=Same.new (o:=HO.lst [V.int 1]) hp
   refine⟨_,rfl,p,a,_,_,rfl,rfl,aA,s1 _ _ ha,?_,fun q hq=>?_⟩
   ·rw[bY]
    show 1+z.length≤sizeLine
    exact gO (by omega)
   ·exact k _ q (s1.trans (Same.new hq)) (s1.free hq) aA
end
structure Lb(cW:Addr)(H:Hp)(ds:List Nat)(a:Addr)(w:Sx03.Word):Prop where
 ex: ∃dx sa d as kvs,H a=some (.ins cW dx (wf (w.cls:Nat) sa d))∧H sa=some (.lst (as.map V.ref))∧bD H as (w.stems.map bh)∧H d=some (.dK kvs)∧Wy H ds kvs w.odd
def KT(H H':Hp):Prop:=∀b o,H b=some o→(∀ps,o≠ .tbl ps)→H' b=some o
theorem KT.same{H H':Hp}(s:Same H H'):KT H H':=fun b o e _=>s b o e
theorem KT.of{H H':Hp}{pt:Addr}(k:aL [pt] H H')(T:dM H pt):KT H H':=fun b o e n=>k b o e fun m=>by
 obtain⟨ps,z⟩:=dM.ne T
 rw[List.mem_singleton.mp m,z] at e
 cases e
 exact n _ rfl
theorem KT.trans{H H1 H2:Hp}(a:KT H H1)(b:KT H1 H2):KT H H2:=fun c o e n=>b c o (a c o e n) n
theorem KT.lst{H H':Hp}(k:KT H H'){a:Addr}{xs:List V}(e:H a=some (.lst xs)):H' a=some (.lst xs):=k a _ e fun ps q=>(nomatch q)
theorem KT.ins{H H':Hp}(k:KT H H'){a C dx:Addr}{fs:List (Str×V)}(e:H a=some (.ins C dx fs)):H' a=some (.ins C dx fs):=k a _ e fun ps q=>(nomatch q)
theorem KT.lists{H H':Hp}(k:KT H H'){as:List Addr}{xss:List (List Int)}(h:bD H as xss):bD H' as xss:=⟨h.1,fun j b ys hb hy=>k.lst (h.2 j b ys hb hy)⟩
theorem Km.kt{F F':Hp}(s:KT F F'): ∀{v:Option V} {o:Option (Sx03.Cell×Option Sx03.Bytes)},Km F v o→Km F' v o
 |none,none,h=>h
 |some v,some (_,none),h=>h
 |some v,some (_,some b),⟨a,h1,h2⟩=>⟨a,h1,s.lst h2⟩
 |none,some _,h=>h.elim
 |some _,none,h=>h.elim
theorem Lb.kt{cW:Addr}{H H':Hp}{ds:List Nat}{a:Addr}{w:Sx03.Word}(h:Lb cW H ds a w)(k:KT H H'):Lb cW H' ds a w:=by
 obtain⟨dx,sa,d,as,kvs,h1,h2,h3,h4,h5⟩:=h.ex
 exact⟨dx,sa,d,as,kvs,k.ins h1,k.lst h2,k.lists h3,k _ _ h4 fun ps q=>(nomatch q),fun c hc=>(h5 c hc).kt k⟩
theorem nQ.kt{H H':Hp}{f:Addr}{rows:List Addr}{s:Sx03.St}{k:Nat}(h:nQ H f rows s k)(kp:KT H H'):nQ H' f rows s k:=
 ⟨kp.lst h.at_,h.len,fun i c a hc ha=>kp.lst (h.row i c a hc ha)⟩
theorem LAt.W0{cL cR cW:Addr}{H:Hp}{l:Addr}{s:Sx03.St}{t:Nat}{S:Sh}(L:LAt cL cR cW H l s t S){n:Nat}{w:Sx03.Word}(h:s.words[n]?=some w): ∃a,(S.was.map V.ref)[n]?=some (.ref a)∧Lb cW H s.dims a w:=by
 have hn:=(List.getElem?_eq_some_iff.mp h).1
 have h1:S.was[n]?=some (S.was[n]'(by rw[L.tG];exact hn)):=List.getElem?_eq_getElem _
 have h2:S.das[n]?=some (S.das[n]'(by rw[L.wY];exact hn)):=List.getElem?_eq_getElem _
 obtain⟨dx,sa,as,kvs,q1,q2,q3,q4,q5,_⟩:=(L.wat n _ _ w h1 h2 h).ex
 exact⟨_,by rw[List.getElem?_map,h1];rfl,dx,sa,_,as,kvs,L.sub _ _ q1,L.sub _ _ q2,q3.mono fun a _ o e=>L.sub a o e,q4,fun c hc=>(q5 c hc).mono L.sub⟩
def oF(r c:Int)(t:Addr):List (Str×V):=[("reason",.int r),("cell",.int c),("taken",.ref t)]
theorem qy{r c:Int}{t:Addr}:(oF r c t).lookup ("reason":Str)=some (.int r):=by rfl
theorem Ld{r c:Int}{t:Addr}:(oF r c t).lookup ("cell":Str)=some (.int c):=by rfl
theorem W2{r c:Int}{t:Addr}:(oF r c t).lookup ("taken":Str)=some (.ref t):=by rfl
def dR:Fs.End→Int
 | .odd _=>0
 | .gap _=>1
 | .made _=>2
 | .ring=>3
def fZ:Fs.End→List Nat
 | .gap i=>[i]
 |_=>[]
def Le(s:Sx03.St)(w:Sx03.Word):Fs.End→Int→Prop
 | .odd o,n=>∃c x,Sx03.isCell s.dims c=true∧n=(Fs.num s.dims c:Nat)∧Fs.gF w.odd c=some x∧x.2=o
 | .made c,n=>Sx03.isCell s.dims c=true∧n=(Fs.num s.dims c:Nat)
 |_,_=>True
theorem Uu{s:Sx03.St}{w:Sx03.Word}{n:Nat}{c:Sx03.Cell}{x:Sx03.Cell×Option Sx03.Bytes}(h:Fs.gF w.odd c=some x):Fs.trail s w (n+1) c=([],.odd x.2):=by
 show(match Fs.gF w.odd c with
  |some x=>([],Fs.End.odd x.2)
  |none=>_)=_
 rw[h]
theorem QX{s:Sx03.St}{w:Sx03.Word}{n:Nat}{c:Sx03.Cell}(h:Fs.gF w.odd c=none)(hx:s.winner w.cls 0 c=none):Fs.trail s w (n+1) c=([],.made c):=by
 unfold Fs.trail
 rw[h]
 show(match s.winner w.cls 0 c with
   |some x=>_
   |none=>([],Fs.End.made c))=_
 rw[hx]
theorem Uv{s:Sx03.St}{w:Sx03.Word}{n:Nat}{c:Sx03.Cell}{x:Sx03.Rule×Nat}(h:Fs.gF w.odd c=none)(hx:s.winner w.cls 0 c=some x)(ho:x.1.op= .gap):Fs.trail s w (n+1) c=([],.gap x.2):=by
 unfold Fs.trail
 rw[h]
 show(match s.winner w.cls 0 c with
   |some x=>_
   |none=>([],Fs.End.made c))=_
 rw[hx]
 show(match x.1.op with
    | .refer l=>(x.2::(Fs.trail s w n (Sx03.moved l c)).1,(Fs.trail s w n (Sx03.moved l c)).2)
    |_=>([],.gap x.2))=_
 rw[ho]
theorem Ot{s:Sx03.St}{w:Sx03.Word}{n:Nat}{c:Sx03.Cell}{x:Sx03.Rule×Nat}{l:Sx03.Cond}(h:Fs.gF w.odd c=none)(hx:s.winner w.cls 0 c=some x)(ho:x.1.op= .refer l):Fs.trail s w (n+1) c=(x.2::(Fs.trail s w n (Sx03.moved l c)).1,(Fs.trail s w n (Sx03.moved l c)).2):=by
 conv=>lhs;unfold Fs.trail
 rw[h]
 show(match s.winner w.cls 0 c with
   |some x=>_
   |none=>([],Fs.End.made c))=_
 rw[hx]
 show(match x.1.op with
    | .refer l=>(x.2::(Fs.trail s w n (Sx03.moved l c)).1,(Fs.trail s w n (Sx03.moved l c)).2)
    |_=>([],.gap x.2))=_
 rw[ho]
section
variable{P:Program}{w:World}{K:PySem.W.Frag}{mg:Str→Option Value}{base:Heap}{au aD aj aH aK:Addr}{f:Addr}{fd:FuncData}
def Lf(cO:Addr):Sp:=fun vs H Q _=>∃(x dx ta:Addr) (r c:Int),vs=[.ref x,.int r,.int c,.ref ta]∧H x=some (.ins cO dx [])∧
 ∀H',H' x=some (.ins cO dx (oF r c ta))→aL [x] H H'→Q .non H'
theorem Gf(F:Fun K "__init__" "Origin.__init__" o9 f fd)(T:Txt K mg aD aK aH au aj):bJ P w K mg base CX0 1 f fd ["self","reason","cell","taken"] (Lf aK):=by
 refine F.ok Es (fun vs H Q E h=>?_) (fun cdv A outer s H vs Q E hr h=>?_)
 ·obtain⟨x,dx,ta,r,c,rfl,_⟩:=h
  rfl
 ·obtain⟨x,dx,ta,r,c,rfl,hx,k⟩:=h
  refine⟨_,(aB (dX (pv 0) (pv 1) rfl)
   (aB (dX (pv 0) (pv 2) rfl)
   (aF (dX (pv 0) (pv 3) rfl)))),?_⟩
  refine⟨_,rfl,_,rfl,x,_,dx,_,rfl,hx,T.eY,T.eZ,(by show 0<1000;decide),?_⟩
  refine⟨_,rfl,_,rfl,x,_,dx,_,rfl,aA,T.eY,T.lu,(by show 1<1000;decide),?_⟩
  refine⟨_,rfl,_,rfl,x,_,dx,_,rfl,aA,T.eY,T.uX,(by show 2<1000;decide),?_⟩
  refine k _ aA ?_
  intro b o e nb
  have nb:b≠x:=by simpa using nb
  rw[aJ nb,aJ nb,aJ nb]
  exact e
def OrAt(cO:Addr)(H:Hp)(q:Addr)(r c:Int)(tk:List Nat):Prop:=∃dx ta,H q=some (.ins cO dx (oF r c ta))∧H ta=some (.lst (nv tk))
structure Ht(cL cR cW:Addr)(H:Hp)(l fo wa:Addr)(s:Sx03.St)(t:Nat)(S:Sh)(rows:List Addr)(wd:Sx03.Word):Prop where
 lat:LAt cL cR cW H l s t S
 wf:Fs.Wf s
 dims:s.dims≠[]
 fol:nQ H fo rows s wd.cls
 word:Lb cW H s.dims wa wd
 stems:Sx03.stemsOk wd.stems=true
 odd: ∀p∈wd.odd,∀b,p.2=some b→b.length≤64
theorem Ht.same{cL cR cW:Addr}{H H':Hp}{l fo wa:Addr}{s:Sx03.St}{t:Nat}{S:Sh}{rows:List Addr}{wd:Sx03.Word}(h:Ht cL cR cW H l fo wa s t S rows wd)(k:Same H H'):Ht cL cR cW H' l fo wa s t S rows wd:=
 ⟨h.lat.same k,h.wf,h.dims,h.fol.same k,h.word.kt (KT.same k),h.stems,h.odd⟩
theorem Ht.W3{cL cR cW:Addr}{H:Hp}{l fo wa:Addr}{s:Sx03.St}{t:Nat}{S:Sh}{rows:List Addr}{wd:Sx03.Word}(h:Ht cL cR cW H l fo wa s t S rows wd):(Sx03.cells s.dims).length≤64:=by
 rw[Fs.fW]
 exact(R5 (h.wf.dimsOk h.dims)).2
def CZ(cL cR cW cO:Addr):Sp:=fun vs H Q _=>∃(l fo wa:Addr) (s:Sx03.St) (t:Nat) (S:Sh) (rows:List Addr) (wd:Sx03.Word) (c:Sx03.Cell),vs=[.ref l,.ref fo,.ref wa,.int (Fs.num s.dims c:Nat)]∧Ht cL cR cW H l fo wa s t S rows wd∧Sx03.isCell s.dims c=true∧
 ∀H' q n,Same H H'→OrAt cO H' q (dR (Fs.trail s wd ((Sx03.cells s.dims).length+1) c).2) n ((Fs.trail s wd ((Sx03.cells s.dims).length+1) c).1++fZ (Fs.trail s wd ((Sx03.cells s.dims).length+1) c).2)→Le s wd (Fs.trail s wd ((Sx03.cells s.dims).length+1) c).2 n→
  (Fs.trail s wd ((Sx03.cells s.dims).length+1) c).1.length≤65→Q (.ref q) H'
theorem W4(F:Fun K "trace" "trace" J6 f fd)(T:Txt K mg aD aK aH au aj)(qz:GC P w K mg base "Origin" aK 1 ["self","reason","cell","taken"] (Lf aK)):bJ P w K mg base CX0 3 f fd ["language","followed","word","cell"] (CZ aj aD aH aK):=by
 refine F.ok uK (fun vs H Q E h=>?_) (fun cdv A outer s H vs Q E hr h=>?_)
 ·obtain⟨l,fo,wa,s,t,S,rows,wd,c,rfl,_⟩:=h
  rfl
 ·obtain⟨l,fo,wa,s0,t,S,rows,wd,c0,rfl,AK,hc0,k⟩:=h
  have hu:=Nb hr
  have hN:=AK.W3
  generalize hNe:(Sx03.cells s0.dims).length=N at k hN
  generalize hTe:Fs.trail s0 wd (N+1) c0=Tr at k
  refine⟨_,(aB (aX (i:=4) uK.nd rfl (by first|exact Or.inl rfl|exact Or.inr rfl) (bG aC))
   (aB (pY PassesOwn.never (Vb (Ij hu (pv 3) (aW (pv 2) rfl)))
   (aB (aX (i:=5) uK.nd rfl (by first|exact Or.inl rfl|exact Or.inr rfl) (cJ bK (cJ bK (pv 1) (pv 3) (fun _ _=>rfl)) bB (fun _ _=>rfl)))
   (aB (bI (aY zK (pv 5) dW (bx _)) (aF (aP (jd qz (hr.mono (by decide)) (ak (bW T.J9) (ak (pv 3) (ak (pv 4) aC)))))) aZ)
   (aB (dj (jw PySem.F.plainAttrs_list PySem.F.slot_list_append PySem.F.type_list_append fQ (pv 4) (ak (pv 5) aC)))
   (aB (aX (i:=6) uK.nd rfl (by first|exact Or.inl rfl|exact Or.inr rfl) (cJ bK (aW (pv 0) rfl) (pv 5) (fun _ _=>rfl)))
   (aB (bI (aY nU (aW (pv 6) rfl) (bW T.vM) (bx _)) (aF (aP (jd qz (hr.mono (by decide)) (ak (bW T.gU) (ak (pv 3) (ak (pv 4) aC)))))) aZ)
   (aB (bI (aY tY (bA aV (by rfl) T.cV PySem.boot_len (ak (pv 4) aC)) (bA aV (by rfl) T.cV PySem.boot_len (ak (pv 1) aC)) (bx _)) (aF (aP (jd qz (hr.mono (by decide)) (ak (bW T.Ka) (ak (pv 3) (ak (pv 4) aC)))))) aZ)
   (aF (aX (i:=3) uK.nd rfl (by first|exact Or.inl rfl|exact Or.inr rfl) (RJ hu (aW (pv 6) rfl) (pv 3) (fun _ _=>rfl)))))))))))
   (aF (aP (jd qz (hr.mono (by decide)) (ak (bW T.RZ) (ak (pv 3) (ak (pv 4) aC)))))))),?_⟩
  refine⟨Nat.zero_le _,fun ta hta=>?_⟩
  refine⟨fun m σ H'=>∃(c:Sx03.Cell) (done:List Nat) (v5 v6:Option V),σ=[some (.ref l),some (.ref fo),some (.ref wa),some (.int (Fs.num s0.dims c:Nat)),some (.ref ta),v5,v6]∧1≤m∧m+done.length=N+1∧Sx03.isCell s0.dims c=true∧Same H H'∧H' ta=some (.lst (nv done))∧Tr=(done++(Fs.trail s0 wd m c).1,(Fs.trail s0 wd m c).2),
   ⟨N+1,c0,[],none,none,rfl,by omega,rfl,hc0,Same.new hta,aA,by rw[hTe];rfl⟩,?_⟩
  rintro m σ H1 ⟨c,done,v5,v6,rfl,hm1,hm,hc,hH1,Yv,hTr⟩
  obtain⟨n,rfl⟩: ∃n,m=n+1:=⟨m - 1,by omega⟩
  have AK1:=AK.same hH1
  have L1:=AK1.lat
  obtain⟨dxw,sa,d,as,kvs,w1,w2,w3,w4,w5⟩:=AK1.word.ex
  have fin: ∀(H2:Hp) (x dx:Addr) (r:Int) (n:Nat) (tk:List Nat) (H3:Hp),Same H H2→H2 x=none→H2 dx=none→dx≠x→H2 ta=some (.lst (nv tk))→H3 x=some (.ins aK dx (oF r (n:Nat) ta))→aL [x] (upd (upd H2 dx (.own x)) x (.ins aK dx [])) H3→
    r=dR Tr.2→tk=Tr.1++fZ Tr.2→Le s0 wd Tr.2 (n:Nat)→Tr.1.length≤65→Q (.ref x) H3:=by
   intro H2 x dx r n tk H3 hH2 hx hdx ndx htk hx3 k3 e1 e2 e3 e4
   have sm:=jB (C:=aK) hx hdx ndx
   have s23:Same H2 H3:=fun b o e=>k3 b o (sm b o e) (by simpa using aG e hx)
   refine k H3 x n (hH2.trans s23) ⟨dx,ta,?_,?_⟩ e3 e4
   ·rw[←e1];exact hx3
   ·rw[←e2];exact s23 _ _ htk
  have hodd:=w5 c hc
  refine⟨_,rfl,_,rfl,wa,_,dxw,_,_,rfl,w1,T.iG,T.eG,jW,d,_,rfl,DG.k (k:=Sum.inl ((Fs.num s0.dims c:Nat):Int)) w4,_,rfl,?_⟩
  have hof:(wd.odd.find? fun x=>x.1==c)=Fs.gF wd.odd c:=rfl
  rw[hof] at hodd
  cases hv:jC kvs (Sum.inl ((Fs.num s0.dims c:Nat):Int)) with
  |some v=>
   cases ho:Fs.gF wd.odd c with
   |none=>rw[hv,ho] at hodd;exact hodd.elim
   |some x=>
    rw[Uu ho] at hTr
    refine cA ?_
    refine⟨_,rfl,_,rfl,fun x' dx hx hdx ndx=>⟨x',dx,ta,0,_,rfl,aA,fun H3 hx3 k3=>⟨rfl,?_⟩⟩⟩
    refine fin H1 x' dx 0 _ done H3 hH1 hx hdx ndx Yv hx3 k3 ?_ ?_ ?_ ?_
    ·rw[hTr];rfl
    ·rw[hTr];simp[fZ]
    ·rw[hTr];exact⟨c,x,hc,rfl,ho,rfl⟩
    ·rw[hTr];simp;omega
  |none=>
   cases ho:Fs.gF wd.odd c with
   |some x=>obtain⟨x1,x2⟩:=x;rw[hv,ho] at hodd;cases x2<;>exact hodd.elim
   |none=>
    refine cB ?_
    have hcg:=Fs.mQ hc
    have hnl:Fs.num s0.dims c<rows.length:=by rw[AK.fol.len];exact(List.getElem?_eq_some_iff.mp hcg).1
    have hrow:rows[Fs.num s0.dims c]?=some rows[Fs.num s0.dims c]:=List.getElem?_eq_getElem hnl
    generalize rows[Fs.num s0.dims c]=rw0 at hrow
    have hrw:=AK1.fol.row _ c rw0 hcg hrow
    refine⟨fun σ' H'=>∃(c:Sx03.Cell) (done:List Nat) (v5 v6:Option V),σ'=[some (.ref l),some (.ref fo),some (.ref wa),some (.int (Fs.num s0.dims c:Nat)),some (.ref ta),v5,v6]∧1≤n∧n+done.length=N+1∧Sx03.isCell s0.dims c=true∧Same H H'∧H' ta=some (.lst (nv done))∧Tr=(done++(Fs.trail s0 wd n c).1,(Fs.trail s0 wd n c).2),fun σ' H' h=>⟨n,by omega,h⟩,?_⟩
    refine⟨_,rfl,_,rfl,fo,_,_,_,rfl,rfl,SqL.of AK1.fol.at_,at_of (j:=Fs.num s0.dims c) rfl (by rw[List.getElem?_map,hrow];rfl),rw0,_,_,_,rfl,rfl,SqL.of hrw,at_of (j:=0) rfl (vO (by decide)),?_⟩
    cases hx:s0.winner wd.cls 0 c with
    |none=>
     rw[QX ho hx] at hTr
     refine⟨_,rfl,rfl,_,rfl,cB ?_⟩
     refine⟨_,rfl,_,rfl,fun x' dx hx hdx ndx=>⟨x',dx,ta,2,_,rfl,aA,fun H3 hx3 k3=>⟨rfl,?_⟩⟩⟩
     refine fin H1 x' dx 2 _ done H3 hH1 hx hdx ndx Yv hx3 k3 ?_ ?_ ?_ ?_
     ·rw[hTr];rfl
     ·rw[hTr];simp[fZ]
     ·rw[hTr];exact⟨hc,rfl⟩
     ·rw[hTr];simp;omega
    |some x=>
     obtain⟨hr1,hb,_,hmt,hok⟩:=Fs.oA AK.wf hx
     refine⟨_,rfl,rfl,_,rfl,cA ?_⟩
     have e2:nv done++[V.int (x.2:Nat)]=nv (done++[x.2]):=kW done [x.2]
     refine⟨_,rfl,.inl ⟨rfl,_,SqL.of Yv⟩,_,rfl,ta,_,_,rfl,rfl,Yv,(by rw[bY];exact small (by omega)),?_⟩
     show BR _ _ _ _ (upd H1 ta (.lst (nv done++[V.int (x.2:Nat)])))
     rw[e2]
     have hH2:Same H (upd H1 ta (.lst (nv (done++[x.2])))):=fun b o e=>by rw[aJ (aG e hta)];exact hH1 b o e
     have W5:(upd H1 ta (.lst (nv (done++[x.2])))) ta=some (.lst (nv (done++[x.2]))):=aA
     generalize upd H1 ta (.lst (nv (done++[x.2])))=H2 at hH2 W5
     have L2:=AK.lat.same hH2
     have hnl:x.2<S.ras.length:=by rw[AK.lat.rlen];exact(List.getElem?_eq_some_iff.mp hr1).1
     have hra:S.ras[x.2]?=some S.ras[x.2]:=List.getElem?_eq_getElem hnl
     generalize S.ras[x.2]=ra at hra
     obtain⟨ce,so,kvs2,Cd,_,hso,QG⟩:=(AK.lat.rat x.2 ra x.1 hra hr1).ex
     obtain⟨dx,ca,la,as',h1,_⟩:=(Cd.mono L2.sub).ex
     have hop:=hok.op
     rw[hb] at hop
     refine⟨_,rfl,l,_,_,_,_,rfl,L2.lang,T.aR,T.cF,lJ,_,rfl,S.ra,_,_,_,rfl,rfl,SqL.of L2.rules,at_of (j:=x.2) rfl (by rw[List.getElem?_map,hra];rfl),?_⟩
     refine⟨_,rfl,ra,_,dx,_,_,rfl,h1,T.bC,T.fJ,nG,rfl,_,rfl,?_⟩
     have hcase:x.1.op= .gap∨∃l,x.1.op= .refer l:=by
      cases e:x.1.op<;>rw[e] at hop<;>first|exact .inl rfl|exact .inr ⟨_,rfl⟩|(simp[Sx03.opOk] at hop)
     rcases hcase with hg|⟨lc,hg⟩
     ·rw[Uv ho hx hg] at hTr
      rw[hg]
      refine itP (decide_eq_true rfl) ?_
      refine⟨_,rfl,_,rfl,fun x' dx hx hdx ndx=>⟨x',dx,ta,1,_,rfl,aA,fun H3 hx3 k3=>⟨rfl,?_⟩⟩⟩
      refine fin H2 x' dx 1 _ (done++[x.2]) H3 hH2 hx hdx ndx W5 hx3 k3 ?_ ?_ ?_ ?_
      ·rw[hTr];rfl
      ·rw[hTr];simp[fZ]
      ·rw[hTr];trivial
      ·rw[hTr];simp;omega
     ·rw[Ot ho hx hg] at hTr
      rw[hg] at h1⊢
      refine itN (fun q=>absurd (of_decide_eq_true q) (fun e=>by injection e with e;have e:(6:Int)=7:=e;exact absurd e (by decide))) ?_
      refine⟨_,rfl,ta,_,rfl,.inl (SqL.of W5),_,rfl,fo,_,rfl,.inl (SqL.of (AK.fol.same hH2).at_),_,_,rfl,rfl,_,rfl,gA (fun dd=>?_) (fun dd=>?_)⟩
      ·have dd:((rows.map V.ref).length:Int)<((nv (done++[x.2])).length:Int):=of_decide_eq_true dd
       rw[List.length_map,bY,List.length_append,AK.fol.len,hNe] at dd
       have dd:(N:Int)<((done.length+1:Nat):Int):=dd
       have hn0:n=0:=by omega
       subst hn0
       refine⟨_,rfl,_,rfl,fun x' dx hx hdx ndx=>⟨x',dx,ta,3,_,rfl,aA,fun H3 hx3 k3=>⟨rfl,?_⟩⟩⟩
       refine fin H2 x' dx 3 _ (done++[x.2]) H3 hH2 hx hdx ndx W5 hx3 k3 ?_ ?_ ?_ ?_
       ·rw[hTr];rfl
       ·rw[hTr];simp[fZ,Fs.trail]
       ·rw[hTr];trivial
       ·rw[hTr];simp[Fs.trail];omega
      ·have dd: ¬((rows.map V.ref).length:Int)<((nv (done++[x.2])).length:Int):=fun q=>dd (decide_eq_true q)
       rw[List.length_map,bY,List.length_append,AK.fol.len,hNe] at dd
       have dd: ¬(N:Int)<((done.length+1:Nat):Int):=dd
       have hsv:=QG lc hg c hc hmt
       have hD:=DG.k (k:=Sum.inl ((Fs.num s0.dims c:Nat):Int)) (L2.sub _ _ hso)
       rw[hsv] at hD
       refine⟨_,rfl,ra,_,dx,_,_,rfl,h1,T.bC,T.m9,Fo,_,rfl,so,_,rfl,hD,?_⟩
       have hlc:Fs.zT s0.dims lc:=by rw[hg] at hop;exact Fs.Nq hop
       refine⟨Sx03.moved lc c,done++[x.2],_,_,rfl,by omega,by rw[List.length_append];show n+(done.length+1)=N+1;omega,Fs.Ed hlc hc,hH2,W5,?_⟩
       rw[hTr,List.append_assoc]
       rfl
def nR(cL cR cW:Addr):Sp:=fun vs H Q _=>∃(l fo wa:Addr) (s:Sx03.St) (t:Nat) (S:Sh) (rows:List Addr) (wd:Sx03.Word) (c:Sx03.Cell),vs=[.ref l,.ref fo,.ref wa,.int (Fs.num s.dims c:Nat)]∧Ht cL cR cW H l fo wa s t S rows wd∧Sx03.isCell s.dims c=true∧
 ∀H' q,Same H H'→H q=none→H' q=some (.lst (iv (bZ (s.got wd c))))→Q (.ref q) H'
theorem Ak(F:Fun K "find_standing" "find_standing" lO f fd)(T:Txt K mg aD aK aH au aj)(vP:GF P w K mg base "trace" 3 ["language","followed","word","cell"] (CZ aj aD aH aK))(eE:GF P w K mg base "tell_form" 1 ["form"] (Ge))(vp:GF P w K mg base "make_form" 2 ["rules","stems","followed"] (QW aj aD aH)):bJ P w K mg base CX0 4 f fd ["language","followed","word","cell"] (nR aj aD aH):=by
 refine F.ok qt (fun vs H Q E h=>?_) (fun cdv A outer s H vs Q E hr h=>?_)
 ·obtain⟨l,fo,wa,s,t,S,rows,wd,c,rfl,_⟩:=h
  rfl
 ·obtain⟨l,fo,wa,s0,t,S,rows,wd,c0,rfl,AK,hc0,k⟩:=h
  have hu:=Nb hr
  have hgot:s0.got wd c0=Fs.JT s0 wd (Fs.trail s0 wd ((Sx03.cells s0.dims).length+1) c0).2:=Fs.Iu s0 wd _ c0
  refine⟨_,(aB (aX (i:=4) qt.nd rfl (by first|exact Or.inl rfl|exact Or.inr rfl) (aQ vP (hr.mono (by decide)) (ak (pv 0) (ak (pv 1) (ak (pv 2) (ak (pv 3) aC))))))
   (aB (bI (aY nU (aW (pv 4) rfl) (bW T.Ka) (bx _)) (aF (aP (bG (ak (bW T.pI) aC)))) aZ)
   (aB (bI (aY nU (aW (pv 4) rfl) (bW T.gU) (bx _)) (aF (aP (bG (ak (bW T.iK) aC)))) aZ)
   (aB (bI (aY nU (aW (pv 4) rfl) (bW T.RZ) (bx _)) (aF (aP (aQ eE (hr.mono (by decide)) (ak (RJ hu (aW (pv 2) rfl) (aW (pv 4) rfl) (fun _ _=>rfl)) aC)))) aZ)
   (aF (aP (aQ eE (hr.mono (by decide)) (ak (aQ vp (hr.mono (by decide)) (ak (aW (pv 0) rfl) (ak (aW (pv 2) rfl) (ak (cJ bK (pv 1) (aW (pv 4) rfl) (fun _ _=>rfl)) aC)))) aC)))))))),?_⟩
  refine⟨_,rfl,_,rfl,_,rfl,_,rfl,l,fo,wa,s0,t,S,rows,wd,c0,rfl,AK,hc0,fun H1 q n hH1 hO hE _=>?_⟩
  have AK1:=AK.same hH1
  have L1:=AK1.lat
  obtain⟨dxo,ta,o1,o2⟩:=hO
  rw[hgot] at k
  generalize (Fs.trail s0 wd ((Sx03.cells s0.dims).length+1) c0).2=e at k hE o1
  have tst: ∀(z:Int) (A B:Prop),(dR e=z→A)→(dR e≠z→B)→if(decide (V.int (dR e)=V.int z))=true then A else B:=fun z A B ha hb=>by
   by_cases q:dR e=z
   ·exact itP (decide_eq_true (by rw[q])) (ha q)
   ·exact itN (fun d=>q (by have d:=of_decide_eq_true d;injection d)) (hb q)
  refine⟨_,rfl,q,_,dxo,_,_,rfl,o1,T.eY,T.eZ,qy,rfl,_,rfl,tst _ _ _ (fun g=>?_) (fun g=>?_)⟩
  ·cases e with
   |ring=>exact⟨(by show 1≤sizeLine;decide),fun p hp=>k _ p (hH1.trans (Same.new hp)) (hH1.free hp) aA⟩
   |_=>exact absurd g (by simp[dR])
  refine⟨_,rfl,q,_,dxo,_,_,rfl,o1,T.eY,T.eZ,qy,rfl,_,rfl,tst _ _ _ (fun g=>?_) (fun g=>?_)⟩
  ·cases e with
   |gap i=>exact⟨(by show 1≤sizeLine;decide),fun p hp=>k _ p (hH1.trans (Same.new hp)) (hH1.free hp) aA⟩
   |_=>exact absurd g (by simp[dR])
  obtain⟨dxw,sa,d,as,kvs,w1,w2,w3,w4,w5⟩:=AK1.word.ex
  refine⟨_,rfl,q,_,dxo,_,_,rfl,o1,T.eY,T.eZ,qy,rfl,_,rfl,tst _ _ _ (fun g=>?_) (fun g=>?_)⟩
  ·cases e with
   |odd o=>
    obtain⟨c,x,hc,rfl,hx,hxo⟩:=hE
    obtain⟨x1,x2⟩:=x
    have hxo:x2=o:=hxo
    subst hxo
    have hodd:=w5 c hc
    have hof:(wd.odd.find? fun x=>x.1==c)=some (x1,x2):=hx
    rw[hof] at hodd
    have hlen:=fun b=>AK.odd (x1,x2) (List.mem_of_find?_eq_some hof) b
    cases hv:jC kvs (Sum.inl ((Fs.num s0.dims c:Nat):Int)) with
    |none=>rw[hv] at hodd;exact hodd.elim
    |some v=>
     rw[hv] at hodd
     have hD:=DG.k (k:=Sum.inl ((Fs.num s0.dims c:Nat):Int)) w4
     rw[hv] at hD
     refine⟨_,rfl,wa,_,dxw,_,_,rfl,w1,T.iG,T.eG,jW,_,rfl,q,_,dxo,_,_,rfl,o1,T.eY,T.lu,Ld,d,v,rfl,hD,v,x2,rfl,?_,fun z e=>Nat.le_trans (hlen z e) (by decide),fun H2 p hH2 hp0 hp=>?_⟩
     ·cases x2 with
      |none=>exact hodd
      |some b=>obtain⟨a,e1,e2⟩:=hodd;exact⟨a,e1,e2⟩
     ·refine k H2 p (hH1.trans hH2) (hH1.free hp0) ?_
      cases x2<;>exact hp
   |_=>exact absurd g (by simp[dR])
  ·cases e with
   |made c=>
    obtain⟨hc,rfl⟩:=hE
    have hcg:=Fs.mQ hc
    have hnl:Fs.num s0.dims c<rows.length:=by rw[AK.fol.len];exact(List.getElem?_eq_some_iff.mp hcg).1
    have hrow:rows[Fs.num s0.dims c]?=some rows[Fs.num s0.dims c]:=List.getElem?_eq_getElem hnl
    generalize rows[Fs.num s0.dims c]=rw0 at hrow
    have hrw:=AK1.fol.row _ c rw0 hcg hrow
    refine⟨_,rfl,l,_,_,_,_,rfl,L1.lang,T.aR,T.cF,lJ,_,rfl,wa,_,dxw,_,_,rfl,w1,T.iG,T.yH,Wx,_,rfl,_,rfl,q,_,dxo,_,_,rfl,o1,T.eY,T.lu,Ld,fo,_,_,_,rfl,rfl,SqL.of AK1.fol.at_,at_of (j:=Fs.num s0.dims c) rfl (by rw[List.getElem?_map,hrow];rfl),
     l,sa,rw0,s0,t,S,wd,c,rfl,L1,AK.wf,⟨as,w2,w3⟩,AK.stems,hrw,fun H2 v hH2 hv=>?_⟩
    refine⟨v,_,rfl,hv,fun z e=>Nat.le_trans (Fs.Nr AK.wf AK.stems e) (by decide),fun H3 p hH3 hp0 hp=>?_⟩
    refine k H3 p ((hH1.trans hH2).trans hH3) ((hH1.trans hH2).free hp0) ?_
    have e:Fs.JT s0 wd (.made c)=Sg (s0.made wd c):=by
     show(match s0.made wd c with
      |some b=>Sx03.Got.form b
      |none=> .gap)=_
     cases s0.made wd c<;>rfl
    rw[e]
    exact hp
   |_=>exact absurd rfl (by first|exact g|assumption)
def dZ(s:Sx03.St)(wd:Sx03.Word):List (List Int):=(s.table wd).map bZ
def oJ(cL cR cW:Addr):Sp:=fun vs H Q _=>∃(l fo wa:Addr) (s:Sx03.St) (t:Nat) (S:Sh) (rows:List Addr) (wd:Sx03.Word),vs=[.ref l,.ref fo,.ref wa]∧Ht cL cR cW H l fo wa s t S rows wd∧
 ∀H' q as,Same H H'→H q=none→(∀a∈as,H a=none)→H' q=some (.lst (as.map V.ref))→bD H' as (dZ s wd)→Q (.ref q) H'
theorem Al(F:Fun K "list_standing" "list_standing" lQ f fd)(T:Txt K mg aD aK aH au aj)(cP:GF P w K mg base "find_standing" 4 ["language","followed","word","cell"] (nR aj aD aH)):bJ P w K mg base CX0 5 f fd ["language","followed","word"] (oJ aj aD aH):=by
 refine F.ok j8 (fun vs H Q E h=>?_) (fun cdv A outer s H vs Q E hr h=>?_)
 ·obtain⟨l,fo,wa,s,t,S,rows,wd,rfl,_⟩:=h
  rfl
 ·obtain⟨l,fo,wa,s0,t,S,rows,wd,rfl,AK,k⟩:=h
  have hN:=AK.W3
  refine⟨_,(aF (aP (Bu (own:=[("cell",3)]) rfl j8.nd (gH (by rfl) T.iI (ak (bA aV (by rfl) T.cV PySem.boot_len (ak (pv 1) aC)) aC)) (fU (by rfl)) (fun _ _ _ _ _=>(bF (i:=3) j8.nd rfl (by first|exact Or.inl rfl|exact Or.inr rfl))) (fun _ _ _ _ _=>jG) (fun _ _ _ _ _=>(aQ cP (hr.mono (by decide)) (ak (pv 0) (ak (pv 1) (ak (pv 2) (ak (pv 3) aC))))))))),?_⟩
  refine⟨_,rfl,fo,_,rfl,.inl (SqL.of AK.fol.at_),(((rows.map V.ref).length:Nat):Int),rfl,by rw[List.length_map,AK.fol.len];omega,by rw[List.length_map,AK.fol.len];omega,fun D hD=>?_⟩
  refine p8 (lo:=0) (n:=((((rows.map V.ref).length:Nat):Int)).toNat) (fun i H'=>∃as,Acc H H' D as ((dZ s0 wd).take i)) ⟨[],Acc.new hD⟩ ?_ ?_
  ·rintro i H2 hi ⟨as,hA⟩
   have hi:i<(Sx03.cells s0.dims).length:=by rw[←AK.fol.len];rw[List.length_map] at hi;omega
   have hcg:(Sx03.cells s0.dims)[i]?=some (Sx03.cells s0.dims)[i]:=List.getElem?_eq_getElem hi
   generalize (Sx03.cells s0.dims)[i]=c at hcg
   have hc:=Fs.Nj hcg
   have hn:=Fs.JQ hcg
   refine⟨rfl,jH ?_⟩
   refine⟨_,rfl,_,rfl,_,rfl,_,rfl,l,fo,wa,s0,t,S,rows,wd,c,?_,AK.same hA.same,hc,fun H3 q hH3 hq0 hq=>?_⟩
   ·rw[hn,Int.zero_add];rfl
   have hA3:=hA.grow hH3
   refine⟨_,hA3.at_,by rw[hA3.len,List.length_take];exact small (by omega),as++[q],?_⟩
   have e:(dZ s0 wd).take (i+1)=(dZ s0 wd).take i++[bZ (s0.got wd c)]:=cI (by
    unfold dZ Sx03.St.table
    rw[List.getElem?_map,List.getElem?_map,hcg]
    rfl)
   rw[e]
   exact hA3.push hq (Ne.symm (aG hA.at_ hq0)) (hA.same.free hq0)
  ·rintro H2 ⟨as,hA⟩
   have e:(dZ s0 wd).take ((((rows.map V.ref).length:Nat):Int)).toNat=dZ s0 wd:=by
    apply List.take_of_length_le
    unfold dZ Sx03.St.table
    rw[List.length_map,List.length_map,List.length_map,AK.fol.len]
    omega
   rw[e] at hA
   exact k H2 D as hA.same hD hA.fa hA.at_ hA.rows
structure Cg(cL cR cW pt:Addr)(H:Hp)(l:Addr)(s:Sx03.St)(t:Nat)(S:Sh):Prop where
 lat:LAt cL cR cW H l s t S
 wf:Fs.Wf s
 dims:s.dims≠[]
 tab:dM H pt
 out:Out S l pt
theorem Cg.same{cL cR cW pt:Addr}{H H':Hp}{l:Addr}{s:Sx03.St}{t:Nat}{S:Sh}(h:Cg cL cR cW pt H l s t S)(k:Same H H'):Cg cL cR cW pt H' l s t S:=⟨h.lat.same k,h.wf,h.dims,h.tab.same k,h.out⟩
theorem Cg.keep{cL cR cW pt:Addr}{H H':Hp}{l:Addr}{s:Sx03.St}{t:Nat}{S:Sh}(h:Cg cL cR cW pt H l s t S)(k:aL [pt] H H')(T:dM H' pt):Cg cL cR cW pt H' l s t S:=⟨h.lat.keep k (yP h.out),h.wf,h.dims,T,h.out⟩
structure Hu(s:Sx03.St)(wd:Sx03.Word):Prop where
 cls:wd.cls<s.classes.length
 stems:Sx03.stemsOk wd.stems=true
 odd: ∀p∈wd.odd,∀b,p.2=some b→b.length≤64
theorem Hu.of{s:Sx03.St}(h:Fs.Wf s){n:Nat}{wd:Sx03.Word}(e:s.words[n]?=some wd):Hu s wd:=
 have z:=h.wrd wd (List.mem_of_getElem? e)
 ⟨z.cls,z.stems,z.len⟩
def yV(cL cR cW pt:Addr):Sp:=fun vs H Q _=>∃(l wa:Addr) (s:Sx03.St) (t:Nat) (S:Sh) (wd:Sx03.Word),vs=[.ref l,.ref wa]∧Cg cL cR cW pt H l s t S∧Lb cW H s.dims wa wd∧Hu s wd∧
 ∀H' q as,aL [pt] H H'→dM H' pt→H q=none→(∀a∈as,H a=none)→H' q=some (.lst (as.map V.ref))→bD H' as (dZ s wd)→Q (.ref q) H'
theorem Hv(F:Fun K "list_table" "list_table" rm f fd)(T:Txt K mg aD aK aH au aj){pt:Addr}(fu:GF P w K mg base "list_standing" 5 ["language","followed","word"] (oJ aj aD aH))(bT:GF P w K mg base "list_followed" 7 ["language","group"] (kO aj aD aH pt)):bJ P w K mg base CX0 8 f fd ["language","word"] (yV aj aD aH pt):=by
 refine F.ok G7 (fun vs H Q E h=>?_) (fun cdv A outer s H vs Q E hr h=>?_)
 ·obtain⟨l,wa,s,t,S,wd,rfl,_⟩:=h
  rfl
 ·obtain⟨l,wa,s0,t,S,wd,rfl,AT,hW,hok,k⟩:=h
  obtain⟨dxw,sa,d,as,kvs,w1,_⟩:=hW.ex
  refine⟨_,(aF (aP (aQ fu (hr.mono (by decide)) (ak (pv 0) (ak (aQ bT (hr.mono (by decide)) (ak (pv 0) (ak (aW (pv 1) rfl) aC))) (ak (pv 1) aC)))))),?_⟩
  refine⟨_,rfl,_,rfl,_,rfl,wa,_,dxw,_,_,rfl,w1,T.iG,T.jP,yL,l,s0,t,S,wd.cls,rfl,AT.lat,AT.wf,hok.cls,AT.dims,AT.tab,AT.out,fun H1 fo rows k1 T1 f0 fr hF=>?_⟩
  have AT1:=AT.keep k1 T1
  refine⟨_,rfl,l,fo,wa,s0,t,S,rows,wd,rfl,⟨AT1.lat,AT.wf,AT.dims,hF,hW.kt (KT.of k1 AT.tab),hok.stems,hok.odd⟩,fun H2 q as hH2 hq0 hf hq hA=>?_⟩
  exact k H2 q as (k1.trans (aL.same hH2)) (T1.same hH2) (ji k1 T1 hq0) (fun a ha=>ji k1 T1 (hf a ha)) hq hA
theorem aal(s:Sx03.St)(wd:Sx03.Word)(c:Sx03.Cell):((s.why wd c).1:Int)=dR (Fs.trail s wd ((Sx03.cells s.dims).length+1) c).2∧(s.why wd c).2=(Fs.trail s wd ((Sx03.cells s.dims).length+1) c).1++(Fs.JV s wd (Fs.trail s wd ((Sx03.cells s.dims).length+1) c).2).2:=by
 have e:=Fs.Iv s wd ((Sx03.cells s.dims).length+1) c
 have e:s.why wd c=_:=e
 rw[e]
 refine⟨?_,rfl⟩
 generalize (Fs.trail s wd ((Sx03.cells s.dims).length+1) c).2=z
 cases z<;>rfl
def pR(s:Sx03.St)(wd:Sx03.Word)(c:Sx03.Cell)(i:Nat):List Nat:=(List.range' 1 i).filterMap fun b=>(s.winner wd.cls b c).map fun x=>x.2
theorem Ou(s:Sx03.St)(wd:Sx03.Word)(c:Sx03.Cell)(i:Nat):pR s wd c (i+1)=pR s wd c i++((s.winner wd.cls (1+i) c).map fun x=>x.2).toList:=by
 unfold pR
 rw[List.range'_1_concat,List.filterMap_append]
 cases e:s.winner wd.cls (1+i) c<;>simp[e]
theorem Gg(s:Sx03.St)(wd:Sx03.Word)(c:Sx03.Cell)(i:Nat):(pR s wd c i).length≤i:=by
 unfold pR
 refine Nat.le_trans (List.length_filterMap_le _ _) ?_
 rw[List.length_range']
 exact Nat.le_refl _
def Am(cL cR cW pt:Addr):Sp:=fun vs H Q _=>∃(l wa:Addr) (s:Sx03.St) (t:Nat) (S:Sh) (wd:Sx03.Word) (c:Sx03.Cell),vs=[.ref l,.ref wa,.int (Fs.num s.dims c:Nat)]∧Cg cL cR cW pt H l s t S∧Lb cW H s.dims wa wd∧Hu s wd∧Sx03.isCell s.dims c=true∧
 ∀H' q,aL [pt] H H'→dM H' pt→H q=none→H' q=some (.lst (iv (((s.why wd c).1:Int)::bh (s.why wd c).2)))→Q (.ref q) H'
theorem Ci(F:Fun K "list_reasons" "list_reasons" m8 f fd)(T:Txt K mg aD aK aH au aj){pt:Addr}(vP:GF P w K mg base "trace" 3 ["language","followed","word","cell"] (CZ aj aD aH aK))(bT:GF P w K mg base "list_followed" 7 ["language","group"] (kO aj aD aH pt)):bJ P w K mg base CX0 8 f fd ["language","word","cell"] (Am aj aD aH pt):=by
 refine F.ok eX (fun vs H Q E h=>?_) (fun cdv A outer s H vs Q E hr h=>?_)
 ·obtain⟨l,wa,s,t,S,wd,c,rfl,_⟩:=h
  rfl
 ·obtain⟨l,wa,s0,t,S,wd,c0,rfl,AT,hW,hok,hc0,k⟩:=h
  obtain⟨dxw,sa,d,as,kvs,w1,_⟩:=hW.ex
  obtain⟨y1,y2⟩:=aal s0 wd c0
  rw[y1,y2] at k
  refine⟨_,(aB (aX (i:=3) eX.nd rfl (by first|exact Or.inl rfl|exact Or.inr rfl) (aQ bT (hr.mono (by decide)) (ak (pv 0) (ak (aW (pv 1) rfl) aC))))
   (aB (aX (i:=4) eX.nd rfl (by first|exact Or.inl rfl|exact Or.inr rfl) (aQ vP (hr.mono (by decide)) (ak (pv 0) (ak (pv 3) (ak (pv 1) (ak (pv 2) aC))))))
   (aB (aX (i:=5) eX.nd rfl (by first|exact Or.inl rfl|exact Or.inr rfl) (dF jF (bG (ak (aW (pv 4) rfl) aC)) (aW (pv 4) rfl)))
   (aB (bI (aY nU (aW (pv 4) rfl) (bW T.J9) (bx _)) (aF (dj (jw PySem.F.plainAttrs_list PySem.F.slot_list_extend PySem.F.type_list_extend pZ (pv 5) (ak (Bu (own:=[("number",6)]) rfl eX.nd (eV (iZ kZ (cJ bK (pv 3) (aW (pv 4) rfl) (fun _ _=>rfl)) (jE bB) mF)) (fU (by rfl)) (fun _ _ _ _ _=>(bF (i:=6) eX.nd rfl (by first|exact Or.inl rfl|exact Or.inr rfl))) (fun _ _ _ _ _=>(RD (aY mD (pv 6) dW (bx _)))) (fun _ _ _ _ _=>(pv 6))) aC)))) aZ)
   (aF (aP (pv 5))))))),?_⟩
  refine⟨_,rfl,_,rfl,wa,_,dxw,_,_,rfl,w1,T.iG,T.jP,yL,l,s0,t,S,wd.cls,rfl,AT.lat,AT.wf,hok.cls,AT.dims,AT.tab,AT.out,fun H1 fo rows k1 T1 f0 fr hF=>?_⟩
  have AT1:=AT.keep k1 T1
  have AK1:Ht aj aD aH H1 l fo wa s0 t S rows wd:=⟨AT1.lat,AT.wf,AT.dims,hF,hW.kt (KT.of k1 AT.tab),hok.stems,hok.odd⟩
  refine⟨_,rfl,_,rfl,_,rfl,_,rfl,l,fo,wa,s0,t,S,rows,wd,c0,rfl,AK1,hc0,fun H2 q n hH2 hO hE hlen=>?_⟩
  have AK2:=AK1.same hH2
  obtain⟨dxo,ta,o1,o2⟩:=hO
  generalize Fs.trail s0 wd ((Sx03.cells s0.dims).length+1) c0=Tr at k hE o1 o2 hlen
  obtain⟨tk,e⟩:=Tr
  have hlen:tk.length≤65:=hlen
  have k: ∀H' q,aL [pt] H H'→dM H' pt→H q=none→H' q=some (.lst (iv (dR e::bh (tk++(Fs.JV s0 wd e).2))))→Q (.ref q) H':=k
  have o2:H2 ta=some (.lst (nv (tk++fZ e))):=o2
  have o1:H2 q=some (.ins aK dxo (oF (dR e) n ta)):=o1
  have hE:Le s0 wd e n:=hE
  have tlen:(fZ e).length≤1:=by cases e<;>simp[fZ]
  have hfr: ∀{b:Addr},H2 b=none→H b=none:=fun{b} hb=>ji k1 T1 (hH2.free hb)
  refine⟨_,rfl,q,_,dxo,_,_,rfl,o1,T.eY,T.eZ,qy,(by show 1≤sizeLine;decide),fun p hp=>?_⟩
  have s3:=Same.new (o:=HO.lst [V.int (dR e)]) hp
  refine⟨_,rfl,q,_,dxo,_,_,rfl,s3 _ _ o1,T.eY,T.uX,W2,p,ta,_,_,rfl,rfl,aA,s3 _ _ o2,?_,fun q2 hq2=>?_⟩
  ·rw[bY,List.length_append]
   show 1+_≤sizeLine
   exact gO (by omega)
  have s4:=s3.trans (Same.new (o:=HO.lst ([V.int (dR e)]++nv (tk++fZ e))) hq2)
  have aam:=s3.free hq2
  generalize hH3:upd (upd H2 p (HO.lst [V.int (dR e)])) q2 (HO.lst ([V.int (dR e)]++nv (tk++fZ e)))=H3 at s4
  have W6:H3 q2=some (.lst (iv (dR e::bh (tk++fZ e)))):=by rw[←hH3,aA];rfl
  have AK3:=AK2.same s4
  refine⟨_,rfl,q,_,dxo,_,_,rfl,s4 _ _ o1,T.eY,T.eZ,qy,rfl,_,rfl,gA (fun g=>?_) (fun g=>?_)⟩
  ·have g:dR e=2:=by have g:=of_decide_eq_true g;injection g
   cases e with
   |made c=>
    obtain⟨hc,rfl⟩:=hE
    have hcg:=Fs.mQ hc
    have hnl:Fs.num s0.dims c<rows.length:=by rw[hF.len];exact(List.getElem?_eq_some_iff.mp hcg).1
    have hrow:rows[Fs.num s0.dims c]?=some rows[Fs.num s0.dims c]:=List.getElem?_eq_getElem hnl
    generalize rows[Fs.num s0.dims c]=rw0 at hrow
    have hrw:=AK3.fol.row _ c rw0 hcg hrow
    refine⟨_,rfl,.inl ⟨rfl,_,SqL.of W6⟩,_,rfl,_,rfl,q,_,dxo,_,_,rfl,s4 _ _ o1,T.eY,T.lu,Ld,fo,_,_,_,rfl,rfl,SqL.of AK3.fol.at_,at_of (j:=Fs.num s0.dims c) rfl (by rw[List.getElem?_map,hrow];rfl),_,rfl,rw0,_,rfl,SqL.of hrw,fun p2 hp2=>?_⟩
    have aak:jY ((jr s0 wd.cls c).map nO) (some 1) none=((jr s0 wd.cls c).map nO).drop 1:=yR (m:=1) (by rw[kY];decide)
    rw[aak]
    have s5:=Same.new (o:=HO.lst (((jr s0 wd.cls c).map nO).drop 1)) hp2
    refine⟨p2,rfl,⟨_,SqL.of aA⟩,fun D hD=>?_⟩
    refine yp (K:=K) (a:=p2) (xs:=((jr s0 wd.cls c).map nO).drop 1) (fun i H'=>Same (upd H3 p2 (HO.lst (((jr s0 wd.cls c).map nO).drop 1))) H'∧H' D=some (.lst (nv (pR s0 wd c i)))) ⟨Same.new hD,aA⟩ (fun i H' _ p=>SqL.of (p.1 _ _ aA)) ?_ ?_
    ·rintro i z H4 hz ⟨s6,hD4⟩
     rw[List.getElem?_drop] at hz
     have hi:1+i<6:=by
      have:=(List.getElem?_eq_some_iff.mp hz).1
      rw[kY] at this
      exact this
     rw[vO hi] at hz
     injection hz with hz
     subst hz
     have em:=Ou s0 wd c i
     have ml:=Gg s0 wd c i
     refine⟨rfl,?_⟩
     cases hx:s0.winner wd.cls (1+i) c with
     |none=>
      rw[hx] at em
      refine⟨_,rfl,rfl,_,rfl,cA ⟨s6,?_⟩⟩
      rw[em]
      show H4 D=some (.lst (nv (pR s0 wd c i++[])))
      rw[List.append_nil]
      exact hD4
     |some x=>
      rw[hx] at em
      refine⟨_,rfl,rfl,_,rfl,cB ⟨_,rfl,_,hD4,by rw[bY];exact small (by omega),fun b o e=>?_,?_⟩⟩
      ·rw[aJ (aG e hD)];exact s6 b o e
      ·rw[aA,em]
       exact congrArg (fun z=>some (HO.lst z)) (kW (pR s0 wd c i) [x.2])
    ·rintro H4 ⟨s6,hD4⟩
     rw[List.length_drop,kY] at hD4
     have ml:=Gg s0 wd c 5
     have s36:=s5.trans s6
     have nqD:q2≠D:=aG (s5 _ _ W6) hD
     refine⟨q2,D,_,_,rfl,rfl,s36 _ _ W6,hD4,?_,?_⟩
     ·rw[bY,List.length_map]
      show(bh (tk++fZ (.made c))).length+1+(pR s0 wd c 5).length≤sizeLine
      rw[bU,List.length_append]
      exact gO (by omega)
     ·refine⟨_,rfl,k _ q2 ?_ ?_ (hfr aam) ?_⟩
      ·intro b o e nb
       have e2:=s4 _ _ (hH2 _ _ (k1 b o e nb))
       have e3:H2 q2=none:=aam
       rw[aJ (fun z=>by rw[z,hfr e3] at e;cases e)]
       exact s36 _ _ e2
      ·refine dM.keep (H:=H4) ((T1.same hH2).same (s4.trans s36)) (l:=[q2]) (aL.upd (by simp)) fun b hb u e=>?_
       rw[List.mem_singleton.mp hb,s36 _ _ W6] at e
       cases e
       exact⟨fun ps q=>(nomatch q),fun φ q=>(nomatch q)⟩
      ·rw[aA]
       refine congrArg (fun z=>some (HO.lst z)) ?_
       show V.int 2::(nv (tk++[])++nv (pR s0 wd c 5))=V.int 2::nv (tk++Fs.madeBy s0 wd c)
       rw[kW,List.append_nil]
       rfl
   |_=>exact absurd g (by simp[dR])
  ·refine⟨_,rfl,k H3 q2 (k1.trans (aL.same (hH2.trans s4))) (T1.same (hH2.trans s4)) (hfr aam) ?_⟩
   rw[W6]
   have g:dR e≠2:=fun q=>g (decide_eq_true (by rw[q]))
   cases e with
   |made c=>exact absurd rfl g
   |_=>rfl
end
structure vq(K:PySem.W.Frag)(cRd cL cR cW pt:Addr)(H:Hp)(l r:Addr)(s:Sx03.St)(t:Nat)(S:Sh)(told:List Int):Prop where
 ci:nJ K cRd cL cR cW H l r s t S told
 dims:s.dims≠[]
 tab:dM H pt
 out:Out S l pt
def sZ(cL cR cW pt:Addr)(H:Hp)(l r:Addr)(s:Sx03.St)(t:Nat)(S:Sh)(x:Fs.jJ)(Q:VK):Prop:=
 ∀H' q,LAt cL cR cW H' l s t S→aL [pt,r] H H'→dM H' pt→H q=none→H' q=some (.lst (iv (Fs.jZ (Sx03.step s x).2)))→Q (.ref q) H'
section
variable{K:PySem.W.Frag}{cRd cL cR cW pt:Addr}{H H1 H2:Hp}{l r q:Addr}{s:Sx03.St}{t:Nat}{S:Sh}{told:List Int}
theorem vq.tL(I:vq K cRd cL cR cW pt H l r s t S told)(k:aL [r] H H1):Cg cL cR cW pt H1 l s t S:=by
 obtain⟨a,ns,hR⟩:=I.ci.rd
 obtain⟨dx,p,h⟩:=hR.at
 refine⟨I.ci.lat.keep k (yP I.ci.out),I.ci.wf,I.dims,dM.keep I.tab k fun b hb u e=>?_,I.out⟩
 rw[List.mem_singleton.mp hb,h] at e
 cases e
 exact⟨fun ps q=>(nomatch q),fun φ q=>(nomatch q)⟩
theorem sZ.fin{x:Fs.jJ}{Q:VK}(D:sZ cL cR cW pt H l r s t S x Q)(I:vq K cRd cL cR cW pt H l r s t S told){a:Sx03.Ans}(e:Sx03.step s x=(s,a))(k1:aL [r] H H1)(hr:H1 r≠none)(k2:aL [pt] H1 H2)(T2:dM H2 pt)(h0:H1 q=none)(hq:H2 q=some (.lst (iv (Fs.jZ a)))):Q (.ref q) H2:=by
 have A1:=I.tL k1
 refine D H2 q (A1.lat.keep k2 (yP I.out)) (fun b o e nb=>k2 b o (k1 b o e fun m=>nb (by rw[List.mem_singleton.mp m];simp)) fun m=>nb (by rw[List.mem_singleton.mp m];simp)) T2 (rW k1 h0 fun e=>hr (by rw[←e];exact h0)) ?_
 rw[e]
 exact hq
theorem sZ.no{x:Fs.jJ}{Q:VK}(D:sZ cL cR cW pt H l r s t S x Q)(I:vq K cRd cL cR cW pt H l r s t S told){z:Int}(e:Sx03.step s x=(s,Sx03.ok z))(k1:aL [r] H H1)(hr:H1 r≠none)(hq:H1 q=none):Q (.ref q) (upd H1 q (.lst [.int z])):=
 D.fin I e k1 hr (aL.same (Same.new hq)) ((I.tL k1).tab.same (Same.new hq)) hq aA
end
theorem Uw(l:List Nat):kinds (bh l)=l.eraseDups.length:=by
 have key: ∀(n:Nat) (l:List Nat),l.length=n→((bh l).foldl step_dedup []).length=l.eraseDups.length∧∀z:Nat,(z:Int)∈(bh l).foldl step_dedup []↔z∈l:=by
  intro n
  induction n with
  |zero=>intro l hl;cases l with
   |nil=>exact⟨rfl,fun z=>by simp[bh]⟩
   |cons a b=>cases hl
  |succ n ih=>
   intro l hl
   obtain⟨l',b,rfl⟩: ∃l' b,l=l'++[b]:=⟨l.dropLast,l.getLast (by intro e;rw[e] at hl;cases hl),(List.dropLast_concat_getLast _).symm⟩
   obtain⟨h1,h2⟩:=ih l' (by rw[List.length_append] at hl;exact Nat.succ.inj hl)
   have e:bh (l'++[b])=bh l'++[(b:Int)]:=by unfold bh;rw[List.map_append];rfl
   rw[e,List.foldl_append,Fs.IV]
   show(step_dedup _ (b:Int)).length=_∧∀z:Nat,(z:Int)∈step_dedup _ (b:Int)↔_
   generalize (bh l').foldl step_dedup []=F at h1 h2
   have e3:step_dedup F (b:Int)=if b∈l' then F else F++[(b:Int)]:=by
    unfold step_dedup
    by_cases q:b∈l'
    ·rw[if_pos q,if_pos (by rw[List.any_eq_true];exact⟨_,(h2 b).mpr q,by simp⟩)]
    ·rw[if_neg q,if_neg (fun z=>by
      obtain⟨x,hx,e⟩:=List.any_eq_true.mp z
      have e:x=(b:Int):=by simpa using e
      rw[e] at hx
      exact q ((h2 b).mp hx))]
   rw[e3]
   by_cases q:b∈l'
   ·rw[if_pos q,if_pos q]
    refine⟨h1,fun z=>?_⟩
    rw[h2,List.mem_append]
    constructor
    ·exact .inl
    ·rintro(m|m)
     ·exact m
     ·rw[List.mem_singleton.mp m];exact q
   ·rw[if_neg q,if_neg q]
    refine⟨by rw[List.length_append,h1];rfl,fun z=>?_⟩
    rw[List.mem_append,h2,List.mem_append,List.mem_singleton,List.mem_singleton]
    constructor
    ·rintro(m|m)
     ·exact .inl m
     ·exact .inr (by omega)
    ·rintro(m|m)
     ·exact .inl m
     ·exact .inr (by omega)
 exact(key _ l rfl).1
section
variable{P:Program}{w:World}{K:PySem.W.Frag}{mg:Str→Option Value}{base:Heap}{au aD aj aH aK:Addr}{f:Addr}{fd:FuncData}
def Lg(K:PySem.W.Frag)(cRd cL cR cW pt:Addr):Sp:=fun vs H Q _=>∃(l r:Addr) (s:Sx03.St) (t:Nat) (S:Sh) (n:Nat) (c:List Nat),vs=[.ref l,.ref r]∧vq K cRd cL cR cW pt H l r s t S ((n:Int)::(c.length:Int)::bh c)∧sZ cL cR cW pt H l r s t S (.form n c) Q
theorem Lh(F:Fun K "call_form" "call_form" uO f fd)(T:Txt K mg aD aK aH au aj){pt:Addr}(aN:GM P w K mg base au "take" 2 ["self"] (gD K au))(aM:GM P w K mg base au "take_list" 3 ["self"] (cQ K au))(cD:GF P w K mg base "refuse_cell" 3 ["language","word","values"] (nM K aj aD aH))(bH:GF P w K mg base "number_cell" 1 ["sizes","values"] (jT K))(cP:GF P w K mg base "find_standing" 4 ["language","followed","word","cell"] (nR aj aD aH))(bT:GF P w K mg base "list_followed" 7 ["language","group"] (kO aj aD aH pt)):bJ P w K mg base CX0 8 f fd ["language","told"] (Lg K au aj aD aH pt):=by
 refine F.ok iB (fun vs H Q E h=>?_) (fun cdv A outer s H vs Q E hr h=>?_)
 ·obtain⟨l,r,s,t,S,n,c,rfl,_⟩:=h
  rfl
 ·obtain⟨l,r,s0,t,S,n,c,rfl,I,D⟩:=h
  obtain⟨a,ns,hR⟩:=I.ci.rd
  have st:=Fs.Iz I.dims n c
  have hdm:=I.ci.wf.dimsOk I.dims
  refine⟨_,(aB (aX (i:=2) iB.nd rfl (by first|exact Or.inl rfl|exact Or.inr rfl) (bf (pv 1) aN (hr.mono (by decide))))
   (aB (aX (i:=3) iB.nd rfl (by first|exact Or.inl rfl|exact Or.inr rfl) (bf (pv 1) aM (hr.mono (by decide))))
   (aB (aX (i:=4) iB.nd rfl (by first|exact Or.inl rfl|exact Or.inr rfl) (aQ cD (hr.mono (by decide)) (ak (pv 0) (ak (pv 2) (ak (pv 3) aC)))))
   (aB (bI (aY mD (pv 4) dW (bx _)) (aF (aP (bG (ak (pv 4) aC)))) aZ)
   (aB (aX (i:=5) iB.nd rfl (by first|exact Or.inl rfl|exact Or.inr rfl) (cJ bK (aW (pv 0) rfl) (pv 2) (fun _ _=>rfl)))
   (aB (aX (i:=6) iB.nd rfl (by first|exact Or.inl rfl|exact Or.inr rfl) (aQ bH (hr.mono (by decide)) (ak (aW (pv 0) rfl) (ak (pv 3) aC))))
   (aF (aP (aQ cP (hr.mono (by decide)) (ak (pv 0) (ak (aQ bT (hr.mono (by decide)) (ak (pv 0) (ak (aW (pv 5) rfl) aC))) (ak (pv 5) (ak (pv 6) aC))))))))))))),?_⟩
  obtain⟨dx0,p0,h0⟩:=hR.at
  refine⟨_,rfl,r,_,_,rfl,h0,dN,r,a,ns,(n:Int),_,rfl,hR,fun H1 k1 hR1=>?_⟩
  obtain⟨dx1,p1,h1⟩:=hR1.at
  refine⟨_,rfl,r,_,_,rfl,h1,cG,r,a,ns,bh c,[],rfl,(by rw[bU,List.append_nil];exact hR1),fun H3 ca k3 hR3 hc0 hc3=>?_⟩
  have k03:=k1.trans k3
  have L3:=(I.tL k03).lat
  refine⟨_,rfl,_,rfl,_,rfl,l,ca,s0,t,S,n,c,rfl,L3,SqL.of hc3,fun H4 hH4=>?_⟩
  have k04:=k03.trans (aL.same hH4)
  have A4:=I.tL k04
  have hR4:=hR3.same hH4
  refine⟨_,rfl,rfl,_,rfl,?_⟩
  unfold Uq
  cases hw:s0.words[n]? with
  |none=>
   rw[hw] at st
   exact cB ⟨_,rfl,(by show 1≤sizeLine;decide),fun q hq=>D.no I st k04 hR4.ne hq⟩
  |some wd=>
   rw[hw] at st
   cases hc:Sx03.isCell s0.dims c with
   |false=>
    rw[hc] at st
    exact cB ⟨_,rfl,(by show 1≤sizeLine;decide),fun q hq=>D.no I st k04 hR4.ne hq⟩
   |true=>
    rw[hc] at st
    obtain⟨wa,hwa,hW⟩:=A4.lat.W0 hw
    have hok:=Hu.of I.ci.wf hw
    refine cA ⟨_,rfl,l,_,_,_,_,rfl,A4.lat.lang,T.aR,T.cu,jU,_,rfl,S.wa,_,_,.ref wa,rfl,rfl,SqL.of A4.lat.words,at_of (j:=n) rfl hwa,?_⟩
    refine⟨_,rfl,l,_,_,_,_,rfl,A4.lat.lang,T.aR,T.bM,iu,_,rfl,S.za,ca,s0.dims,c,rfl,SqL.of (A4.lat.sub _ _ A4.lat.sizes),SqL.of (hH4 _ _ hc3),hc,Jh hdm,fun H5 hH5=>?_⟩
    have k05:=k04.trans (aL.same hH5)
    have A5:=I.tL k05
    have hR5:=hR4.same hH5
    have hW5:=hW.kt (KT.same hH5)
    obtain⟨dxw,sa,d,as,kvs,w1,_⟩:=hW5.ex
    refine⟨_,rfl,_,rfl,_,rfl,wa,_,dxw,_,_,rfl,w1,T.iG,T.jP,yL,l,s0,t,S,wd.cls,rfl,A5.lat,A5.wf,hok.cls,A5.dims,A5.tab,A5.out,fun H6 fo rows k6 T6 f0 fr hF=>?_⟩
    have A6:=A5.keep k6 T6
    refine⟨_,rfl,_,rfl,l,fo,wa,s0,t,S,rows,wd,c,rfl,⟨A6.lat,A6.wf,A6.dims,hF,hW5.kt (KT.of k6 A5.tab),hok.stems,hok.odd⟩,hc,fun H7 q hH7 hq0 hq=>?_⟩
    refine D.fin I st k05 hR5.ne (k6.trans (aL.same hH7)) (T6.same hH7) (ji k6 T6 hq0) ?_
    rw[hq]
    show _=some (HO.lst (iv (Fs.jZ (match s0.got wd c with
     | .form b=>⟨1,b.map Sx03.num⟩
     | .gap=>Sx03.ok 0
     | .ring=>Sx03.ok 2))))
    cases s0.got wd c<;>rfl
def Sq(K:PySem.W.Frag)(cRd cL cR cW pt:Addr):Sp:=fun vs H Q _=>∃(l r:Addr) (s:Sx03.St) (t:Nat) (S:Sh) (n:Nat) (c:List Nat),vs=[.ref l,.ref r]∧vq K cRd cL cR cW pt H l r s t S ((n:Int)::(c.length:Int)::bh c)∧sZ cL cR cW pt H l r s t S (.why n c) Q
theorem Ov(F:Fun K "call_why" "call_why" wR f fd)(T:Txt K mg aD aK aH au aj){pt:Addr}(aN:GM P w K mg base au "take" 2 ["self"] (gD K au))(aM:GM P w K mg base au "take_list" 3 ["self"] (cQ K au))(cD:GF P w K mg base "refuse_cell" 3 ["language","word","values"] (nM K aj aD aH))(bH:GF P w K mg base "number_cell" 1 ["sizes","values"] (jT K))(nT:GF P w K mg base "list_reasons" 8 ["language","word","cell"] (Am aj aD aH pt)):bJ P w K mg base CX0 9 f fd ["language","told"] (Sq K au aj aD aH pt):=by
 refine F.ok oE (fun vs H Q E h=>?_) (fun cdv A outer s H vs Q E hr h=>?_)
 ·obtain⟨l,r,s,t,S,n,c,rfl,_⟩:=h
  rfl
 ·obtain⟨l,r,s0,t,S,n,c,rfl,I,D⟩:=h
  obtain⟨a,ns,hR⟩:=I.ci.rd
  have st:=Fs.Nt I.dims n c
  have hdm:=I.ci.wf.dimsOk I.dims
  refine⟨_,(aB (aX (i:=2) oE.nd rfl (by first|exact Or.inl rfl|exact Or.inr rfl) (bf (pv 1) aN (hr.mono (by decide))))
   (aB (aX (i:=3) oE.nd rfl (by first|exact Or.inl rfl|exact Or.inr rfl) (bf (pv 1) aM (hr.mono (by decide))))
   (aB (aX (i:=4) oE.nd rfl (by first|exact Or.inl rfl|exact Or.inr rfl) (aQ cD (hr.mono (by decide)) (ak (pv 0) (ak (pv 2) (ak (pv 3) aC)))))
   (aB (bI (aY mD (pv 4) dW (bx _)) (aF (aP (bG (ak (pv 4) aC)))) aZ)
   (aF (aP (aQ nT (hr.mono (by decide)) (ak (pv 0) (ak (cJ bK (aW (pv 0) rfl) (pv 2) (fun _ _=>rfl)) (ak (aQ bH (hr.mono (by decide)) (ak (aW (pv 0) rfl) (ak (pv 3) aC))) aC)))))))))),?_⟩
  obtain⟨dx0,p0,h0⟩:=hR.at
  refine⟨_,rfl,r,_,_,rfl,h0,dN,r,a,ns,(n:Int),_,rfl,hR,fun H1 k1 hR1=>?_⟩
  obtain⟨dx1,p1,h1⟩:=hR1.at
  refine⟨_,rfl,r,_,_,rfl,h1,cG,r,a,ns,bh c,[],rfl,(by rw[bU,List.append_nil];exact hR1),fun H3 ca k3 hR3 hc0 hc3=>?_⟩
  have k03:=k1.trans k3
  have L3:=(I.tL k03).lat
  refine⟨_,rfl,_,rfl,_,rfl,l,ca,s0,t,S,n,c,rfl,L3,SqL.of hc3,fun H4 hH4=>?_⟩
  have k04:=k03.trans (aL.same hH4)
  have A4:=I.tL k04
  have hR4:=hR3.same hH4
  refine⟨_,rfl,rfl,_,rfl,?_⟩
  unfold Uq
  cases hw:s0.words[n]? with
  |none=>
   rw[hw] at st
   exact cB ⟨_,rfl,(by show 1≤sizeLine;decide),fun q hq=>D.no I st k04 hR4.ne hq⟩
  |some wd=>
   rw[hw] at st
   cases hc:Sx03.isCell s0.dims c with
   |false=>
    rw[hc] at st
    exact cB ⟨_,rfl,(by show 1≤sizeLine;decide),fun q hq=>D.no I st k04 hR4.ne hq⟩
   |true=>
    rw[hc] at st
    obtain⟨wa,hwa,hW⟩:=A4.lat.W0 hw
    have hok:=Hu.of I.ci.wf hw
    refine cA ⟨_,rfl,_,rfl,l,_,_,_,_,rfl,A4.lat.lang,T.aR,T.cu,jU,_,rfl,S.wa,_,_,.ref wa,rfl,rfl,SqL.of A4.lat.words,at_of (j:=n) rfl hwa,
     _,rfl,l,_,_,_,_,rfl,A4.lat.lang,T.aR,T.bM,iu,_,rfl,S.za,ca,s0.dims,c,rfl,SqL.of (A4.lat.sub _ _ A4.lat.sizes),SqL.of (hH4 _ _ hc3),hc,Jh hdm,fun H5 hH5=>?_⟩
    have k05:=k04.trans (aL.same hH5)
    have A5:=I.tL k05
    have hR5:=hR4.same hH5
    refine⟨l,wa,s0,t,S,wd,c,rfl,A5,hW.kt (KT.same hH5),hok,hc,fun H6 q k6 T6 hq0 hq=>?_⟩
    exact D.fin I st k05 hR5.ne k6 T6 hq0 hq
def yW(K:PySem.W.Frag)(cRd cL cR cW pt:Addr):Sp:=fun vs H Q _=>∃(l r:Addr) (s:Sx03.St) (t:Nat) (S:Sh) (n:Nat),vs=[.ref l,.ref r]∧vq K cRd cL cR cW pt H l r s t S [(n:Int)]∧sZ cL cR cW pt H l r s t S (.table n) Q
theorem Yw{g:Sx03.Got}(h:(bZ g).length≤97):(Sx03.gotOut g).length≤98:=by
 cases g with
 |form b=>
  have h:(bh b).length+1≤97:=h
  rw[bU] at h
  show(b.map Sx03.num).length+2≤98
  rw[List.length_map]
  omega
 |gap=>decide
 |ring=>decide
theorem Ow: ∀{gs:List Sx03.Got},(∀g∈gs,(bZ g).length≤97)→(gs.flatMap Sx03.gotOut).length≤98 * gs.length
 |[],_=>by simp
 |g::gs,h=>by
  have h1:=Yw (h g (by simp))
  have h2:=Ow fun x hx=>h x (List.mem_cons_of_mem _ hx)
  rw[List.flatMap_cons,List.length_append,List.length_cons]
  omega
theorem Yx{s:Sx03.St}(h:Fs.Wf s){wd:Sx03.Word}(hok:Hu s wd): ∀g∈s.table wd,(bZ g).length≤97:=by
 intro g hg
 unfold Sx03.St.table at hg
 obtain⟨c,hc,rfl⟩:=List.mem_map.mp hg
 cases e:s.got wd c with
 |form b=>
  have:=Fs.RT h hok.stems hok.odd e
  show(bh b).length+1≤97
  rw[bU]
  omega
 |gap=>decide
 |ring=>decide
theorem oK(s:Sx03.St)(wd:Sx03.Word):(s.table wd).length=(Sx03.cells s.dims).length:=List.length_map ..
theorem Cg.Dc{cL cR cW pt:Addr}{H:Hp}{l:Addr}{s:Sx03.St}{t:Nat}{S:Sh}(h:Cg cL cR cW pt H l s t S):(Sx03.cells s.dims).length≤64:=by
 rw[Fs.fW]
 exact(R5 (h.wf.dimsOk h.dims)).2
theorem Hw(F:Fun K "call_table" "call_table" rA f fd)(T:Txt K mg aD aK aH au aj){pt:Addr}(aN:GM P w K mg base au "take" 2 ["self"] (gD K au))(bR:GM P w K mg base aj "has_word" 1 ["self","word"] (qw aj aD aH))(d7:GF P w K mg base "list_table" 8 ["language","word"] (yV aj aD aH pt)):bJ P w K mg base CX0 9 f fd ["language","told"] (yW K au aj aD aH pt):=by
 refine F.ok jf (fun vs H Q E h=>?_) (fun cdv A outer s H vs Q E hr h=>?_)
 ·obtain⟨l,r,s,t,S,n,rfl,_⟩:=h
  rfl
 ·obtain⟨l,r,s0,t,S,n,rfl,I,D⟩:=h
  obtain⟨a,ns,hR⟩:=I.ci.rd
  have st:=Fs.step_table I.dims n
  refine⟨_,(aB (aX (i:=2) jf.nd rfl (by first|exact Or.inl rfl|exact Or.inr rfl) (bf (pv 1) aN (hr.mono (by decide))))
   (aB (bI (gM (fM (jc (pv 0) bR (hr.mono (by decide)) (ak (pv 2) aC)))) (aF (aP (bG (ak (bW T.fK) aC)))) aZ)
   (aB (aX (i:=3) jf.nd rfl (by first|exact Or.inl rfl|exact Or.inr rfl) (aQ d7 (hr.mono (by decide)) (ak (pv 0) (ak (cJ bK (aW (pv 0) rfl) (pv 2) (fun _ _=>rfl)) aC))))
   (aB (aX (i:=4) jf.nd rfl (by first|exact Or.inl rfl|exact Or.inr rfl) (bG (ak (bA aV (by rfl) T.cV PySem.boot_len (ak (pv 3) aC)) aC)))
   (aB (dU PassesOwn.never rfl (eV (pv 3)) (bF (i:=5) jf.nd rfl (by first|exact Or.inl rfl|exact Or.inr rfl))
   (aB (dj (jw PySem.F.plainAttrs_list PySem.F.slot_list_append PySem.F.type_list_append fQ (pv 4) (ak (cJ bK (pv 5) bB (fun _ _=>rfl)) aC)))
   (aF (bI (aY nU (cJ bK (pv 5) bB (fun _ _=>rfl)) (bW T.lA) (bx _)) (aB (dj (jw PySem.F.plainAttrs_list PySem.F.slot_list_append PySem.F.type_list_append fQ (pv 4) (ak (dF lK (bA aV (by rfl) T.cV PySem.boot_len (ak (pv 5) aC)) bB) aC)))
   (aF (dj (jw PySem.F.plainAttrs_list PySem.F.slot_list_extend PySem.F.type_list_extend pZ (pv 4) (ak (iZ kZ (pv 5) (jE bB) mF) aC))))) aZ))))
   (aF (aP (pv 4)))))))),?_⟩
  obtain⟨dx0,p0,h0⟩:=hR.at
  refine⟨_,rfl,r,_,_,rfl,h0,dN,r,a,ns,(n:Int),_,rfl,hR,fun H1 k1 hR1=>?_⟩
  refine⟨_,rfl,l,_,_,rfl,(I.tL k1).lat.lang,uZ,_,rfl,l,s0,t,S,(n:Int),rfl,(I.tL k1).lat,fun H2 hH2=>⟨_,rfl,?_⟩⟩
  have k02:=k1.trans (aL.same hH2)
  have A2:=I.tL k02
  have hR2:=hR1.same hH2
  have h64:=A2.Dc
  cases hw:s0.words[n]? with
  |none=>
   have hn:=List.getElem?_eq_none_iff.mp hw
   rw[decide_eq_false (show¬(0≤(n:Int)∧(n:Int)<(s0.words.length:Int)) by omega)]
   rw[hw] at st
   exact cB ⟨(by show 1≤sizeLine;decide),fun q hq=>D.no I st k02 hR2.ne hq⟩
  |some wd=>
   have hn:=(List.getElem?_eq_some_iff.mp hw).1
   rw[decide_eq_true (show(0≤(n:Int)∧(n:Int)<(s0.words.length:Int)) by omega)]
   rw[hw] at st
   obtain⟨wa,hwa,hW⟩:=A2.lat.W0 hw
   have hok:=Hu.of I.ci.wf hw
   have hrl:=Yx I.ci.wf hok
   refine cA ⟨_,rfl,_,rfl,l,_,_,_,_,rfl,A2.lat.lang,T.aR,T.cu,jU,_,rfl,S.wa,_,_,.ref wa,rfl,rfl,SqL.of A2.lat.words,at_of (j:=n) rfl hwa,l,wa,s0,t,S,wd,rfl,A2,hW,hok,fun H3 tq as k3 T3 hq0 hf hq hA=>?_⟩
   refine⟨_,rfl,tq,_,rfl,.inl (SqL.of hq),(by show 1≤sizeLine;decide),fun p hp=>?_⟩
   have hasl:as.length=(Sx03.cells s0.dims).length:=by rw[hA.1];unfold dZ;rw[List.length_map,oK]
   refine⟨_,rfl,tq,rfl,⟨_,SqL.of (Same.new hp _ _ hq)⟩,gY (K:=K) (a:=tq) (xs:=as.map V.ref) (fun i σ H'=>∃(v5:Option V),σ=[some (.ref l),some (.ref r),some (.int (n:Nat)),some (.ref tq),some (.ref p),v5]∧Same H3 H'∧H' p=some (.lst (iv (((s0.table wd).length:Int)::((s0.table wd).take i).flatMap Sx03.gotOut)))) ?_ ?_ ?_ ?_⟩
   ·refine⟨_,rfl,Same.new hp,?_⟩
    rw[aA]
    refine congrArg (fun z=>some (HO.lst [V.int z])) ?_
    rw[List.length_map,hasl,oK]
   ·rintro i σ H' _ ⟨_,_,hH',_⟩
    exact SqL.of (hH' _ _ hq)
   ·rintro i z σ H4 hz ⟨v5,rfl,hH4,hp4⟩
    obtain⟨ra,hra,rfl⟩:=bO hz
    have hil:=(List.getElem?_eq_some_iff.mp hra).1
    have hgl:i<(s0.table wd).length:=by rw[oK];omega
    have hg:(s0.table wd)[i]?=some (s0.table wd)[i]:=List.getElem?_eq_getElem hgl
    generalize (s0.table wd)[i]=g at hg
    have ha4:H4 ra=some (.lst (iv (bZ g))):=hH4 _ _ (hA.2 i ra _ hra (by unfold dZ;rw[List.getElem?_map,hg];rfl))
    have tk:(s0.table wd).take (i+1)=(s0.table wd).take i++[g]:=cI hg
    have abr:=hrl g (List.mem_of_getElem? hg)
    have hol:(((s0.table wd).take i).flatMap Sx03.gotOut).length≤98 * i:=by
     refine Nat.le_trans (Ow fun x hx=>hrl x (List.mem_of_mem_take hx)) ?_
     rw[List.length_take]
     exact Nat.mul_le_mul_left _ (Nat.min_le_left _ _)
    have hi64:i<64:=by omega
    have up: ∀{H5:Hp} {zs:List V},Same H3 H5→Same H3 (upd H5 p (.lst zs)):=fun{H5 zs} hs b o e=>by
     rw[aJ (aG e hp)];exact hs b o e
    have nrp:ra≠p:=by
     have:=hA.2 i ra _ hra (by unfold dZ;rw[List.getElem?_map,hg];rfl)
     exact aG this hp
    rw[tk,List.flatMap_append]
    generalize hXe:((s0.table wd).take i).flatMap Sx03.gotOut=X at hp4 hol
    have app: ∀(ys:List Int),iv (((s0.table wd).length:Int)::X)++iv ys=iv (((s0.table wd).length:Int)::(X++ys)):=fun ys=>by
     show _=(List.map V.int ((((s0.table wd).length:Int)::X)++ys))
     rw[List.map_append]
    have aan:(iv (((s0.table wd).length:Int)::X)).length=X.length+1:=by rw[List.length_map];rfl
    cases g with
    |gap=>
     refine⟨_,rfl,.inl ⟨rfl,_,SqL.of hp4⟩,_,rfl,ra,_,_,_,rfl,rfl,SqL.of ha4,at_of (j:=0) rfl rfl,p,_,_,rfl,rfl,hp4,(by rw[aan];exact small (by omega)),?_⟩
     refine⟨_,rfl,ra,_,_,_,rfl,rfl,SqL.of (show _=some (HO.lst (iv (bZ .gap))) by rw[aJ nrp];exact ha4),at_of (j:=0) rfl rfl,rfl,_,rfl,cA ?_⟩
     refine⟨_,rfl,up hH4,?_⟩
     rw[aA]
     exact congrArg (fun z=>some (HO.lst z)) (app [0])
    |ring=>
     refine⟨_,rfl,.inl ⟨rfl,_,SqL.of hp4⟩,_,rfl,ra,_,_,_,rfl,rfl,SqL.of ha4,at_of (j:=0) rfl rfl,p,_,_,rfl,rfl,hp4,(by rw[aan];exact small (by omega)),?_⟩
     refine⟨_,rfl,ra,_,_,_,rfl,rfl,SqL.of (show _=some (HO.lst (iv (bZ .ring))) by rw[aJ nrp];exact ha4),at_of (j:=0) rfl rfl,rfl,_,rfl,cA ?_⟩
     refine⟨_,rfl,up hH4,?_⟩
     rw[aA]
     exact congrArg (fun z=>some (HO.lst z)) (app [2])
    |form b=>
     have hbl:b.length≤96:=by
      have h:(bh b).length+1≤97:=abr
      rw[bU] at h
      omega
     have ha4:H4 ra=some (.lst (iv (1::bh b))):=ha4
     refine⟨_,rfl,.inl ⟨rfl,_,SqL.of hp4⟩,_,rfl,ra,_,_,V.int 1,rfl,rfl,SqL.of ha4,at_of (j:=0) rfl rfl,p,iv (((s0.table wd).length:Int)::X),V.int 1,rfl,rfl,hp4,(by rw[aan];exact small (by omega)),?_⟩
     have h5:(upd H4 p (.lst (iv (((s0.table wd).length:Int)::X)++[V.int 1]))) p=some (.lst (iv (((s0.table wd).length:Int)::(X++[1])))):=by
      rw[aA];exact congrArg (fun z=>some (HO.lst z)) (app [1])
     have a5:(upd H4 p (.lst (iv (((s0.table wd).length:Int)::X)++[V.int 1]))) ra=some (.lst (iv (1::bh b))):=by rw[aJ nrp];exact ha4
     have s5:=up (zs:=iv (((s0.table wd).length:Int)::X)++[V.int 1]) hH4
     generalize upd H4 p (.lst (iv (((s0.table wd).length:Int)::X)++[V.int 1]))=H5 at h5 a5 s5
     refine⟨_,rfl,ra,_,_,_,rfl,rfl,SqL.of a5,at_of (j:=0) rfl rfl,rfl,_,rfl,cB ?_⟩
     refine⟨_,rfl,.inl ⟨rfl,_,SqL.of h5⟩,_,rfl,ra,iv (1::bh b),rfl,.inl (SqL.of a5),_,_,rfl,rfl,p,iv (((s0.table wd).length:Int)::(X++[1])),V.int ((((iv (1::bh b)).length:Nat):Int) - 1),rfl,rfl,h5,(by rw[List.length_map];show(X++[1]).length+1<sizeLine;rw[List.length_append];show X.length+1+1<sizeLine;exact small (by omega)),?_⟩
     have e6:((((iv (1::bh b)).length:Nat):Int) - 1)=(b.length:Int):=by
      rw[List.length_map]
      show(((bh b).length+1:Nat):Int) - 1=_
      rw[bU]
      omega
     rw[e6]
     have h6:(upd H5 p (.lst (iv (((s0.table wd).length:Int)::(X++[1]))++[V.int (b.length:Int)]))) p=some (.lst (iv (((s0.table wd).length:Int)::(X++[1,(b.length:Int)])))):=by
      rw[aA]
      refine congrArg (fun z=>some (HO.lst z)) ?_
      show _=(List.map V.int (((s0.table wd).length:Int)::(X++([1]++[(b.length:Int)]))))
      rw[←List.append_assoc]
      show _=(List.map V.int ((((s0.table wd).length:Int)::(X++[1]))++[(b.length:Int)]))
      rw[List.map_append]
      rfl
     have a6:(upd H5 p (.lst (iv (((s0.table wd).length:Int)::(X++[1]))++[V.int (b.length:Int)]))) ra=some (.lst (iv (1::bh b))):=by rw[aJ nrp];exact a5
     have s6:=up (zs:=iv (((s0.table wd).length:Int)::(X++[1]))++[V.int (b.length:Int)]) s5
     generalize upd H5 p (.lst (iv (((s0.table wd).length:Int)::(X++[1]))++[V.int (b.length:Int)]))=H6 at h6 a6 s6
     refine⟨_,rfl,.inl ⟨rfl,_,SqL.of h6⟩,_,rfl,_,rfl,ra,_,rfl,SqL.of a6,fun q1 hq1=>?_⟩
     have ec:jY (iv (1::bh b)) (some 1) none=iv (bh b):=yR (xs:=iv (1::bh b)) (m:=1) (by rw[List.length_map];show 1≤(bh b).length+1;omega)
     rw[ec]
     have nqp:q1≠p:=Ne.symm (aG h6 hq1)
     refine⟨p,q1,_,_,rfl,rfl,(by rw[aJ (Ne.symm nqp)];exact h6),aA,?_,?_⟩
     ·rw[List.length_map,List.length_map,bU]
      show(X++[1,(b.length:Int)]).length+1+b.length≤sizeLine
      rw[List.length_append]
      show X.length+2+1+b.length≤sizeLine
      exact gO (by omega)
     ·refine⟨_,rfl,up (s6.trans (Same.new hq1)),?_⟩
      rw[aA]
      refine congrArg (fun z=>some (HO.lst z)) ?_
      show _=(List.map V.int (((s0.table wd).length:Int)::(X++([1,(b.length:Int)]++(bh b++[])))))
      rw[List.append_nil,←List.append_assoc]
      show _=(List.map V.int ((((s0.table wd).length:Int)::(X++[1,(b.length:Int)]))++bh b))
      rw[List.map_append]
   ·rintro σ H4 ⟨v5,rfl,hH4,hp4⟩
    rw[List.take_of_length_le (by rw[List.length_map,oK,hasl];exact Nat.le_refl _)] at hp4
    exact⟨_,rfl,D.fin I st k02 hR2.ne (k3.trans (aL.same hH4)) (T3.same hH4) (ji k3 T3 hp) hp4⟩
end
theorem Ox: ∀{a b:List Nat},bh a=bh b→a=b
 |[],[],_=>rfl
 |[],_::_,h=>by cases h
 |_::_,[],h=>by cases h
 |x::a,y::b,h=>by
  have h:(x:Int)::bh a=(y:Int)::bh b:=h
  injection h with h1 h2
  rw[Ox h2,show x=y by omega]
theorem sO{g g':Sx03.Got}(h:bZ g=bZ g'):g=g':=by
 cases g with
 |form b=>cases g' with
  |form b'=>
   have h:(1:Int)::bh b=1::bh b':=h
   injection h with _ h
   rw[Ox h]
  |gap=>
   have h:(1:Int)::bh b=[0]:=h
   injection h with h _
   exact absurd h (by decide)
  |ring=>
   have h:(1:Int)::bh b=[2]:=h
   injection h with h _
   exact absurd h (by decide)
 |gap=>cases g' with
  |form b'=>
   have h:[(0:Int)]=1::bh b':=h
   injection h with h _
   exact absurd h (by decide)
  |gap=>rfl
  |ring=>exact absurd h (by decide)
 |ring=>cases g' with
  |form b'=>
   have h:[(2:Int)]=1::bh b':=h
   injection h with h _
   exact absurd h (by decide)
  |gap=>exact absurd h (by decide)
  |ring=>rfl
theorem Ss: ∀(n:Nat) (l:List Nat),l.length=n→l.eraseDups.length≤n
 |0,l,h=>by
  cases l with
  |nil=>exact Nat.le_refl _
  |cons a b=>cases h
 |n+1,l,h=>by
  obtain⟨l',b,rfl⟩: ∃l' b,l=l'++[b]:=⟨l.dropLast,l.getLast (by intro e;rw[e] at h;cases h),(List.dropLast_concat_getLast _).symm⟩
  have ih:=Ss n l' (by rw[List.length_append] at h;exact Nat.succ.inj h)
  rw[Fs.IV]
  split<;>omega
section
variable{P:Program}{w:World}{K:PySem.W.Frag}{mg:Str→Option Value}{base:Heap}{au aD aj aH aK:Addr}{f:Addr}{fd:FuncData}
def Dd(K:PySem.W.Frag)(cRd cL cR cW pt:Addr):Sp:=fun vs H Q _=>∃(l r:Addr) (s:Sx03.St) (t:Nat) (S:Sh) (n:Nat),vs=[.ref l,.ref r]∧vq K cRd cL cR cW pt H l r s t S [(n:Int)]∧sZ cL cR cW pt H l r s t S (.alike n) Q
theorem Hx(F:Fun K "call_alike" "call_alike" rB f fd)(T:Txt K mg aD aK aH au aj){pt:Addr}(aN:GM P w K mg base au "take" 2 ["self"] (gD K au))(bR:GM P w K mg base aj "has_word" 1 ["self","word"] (qw aj aD aH))(d7:GF P w K mg base "list_table" 8 ["language","word"] (yV aj aD aH pt)):bJ P w K mg base CX0 9 f fd ["language","told"] (Dd K au aj aD aH pt):=by
 refine F.ok jg (fun vs H Q E h=>?_) (fun cdv A outer s H vs Q E hr h=>?_)
 ·obtain⟨l,r,s,t,S,n,rfl,_⟩:=h
  rfl
 ·obtain⟨l,r,s0,t,S,n,rfl,I,D⟩:=h
  obtain⟨a,ns,hR⟩:=I.ci.rd
  have st:=Fs.Eh I.dims n
  refine⟨_,(aB (aX (i:=2) jg.nd rfl (by first|exact Or.inl rfl|exact Or.inr rfl) (bf (pv 1) aN (hr.mono (by decide))))
   (aB (bI (gM (fM (jc (pv 0) bR (hr.mono (by decide)) (ak (pv 2) aC)))) (aF (aP (bG (ak (bW T.fK) aC)))) aZ)
   (aB (aX (i:=3) jg.nd rfl (by first|exact Or.inl rfl|exact Or.inr rfl) (aQ d7 (hr.mono (by decide)) (ak (pv 0) (ak (cJ bK (aW (pv 0) rfl) (pv 2) (fun _ _=>rfl)) aC))))
   (aB (uh (own:=[("standing",5)]) (i:=4) rfl jg.nd rfl rfl (yj rfl rfl rfl rfl) (eV (pv 3)) (fU (by rfl)) (fun _ _ _ _ _=>(bF (i:=5) jg.nd rfl (by first|exact Or.inl rfl|exact Or.inr rfl))) (fun _ _ _ _ _=>jG) (fun _ _ _ _ _=>(Z5 (K:=K) rfl PySem.F.plainAttrs_list PySem.F.slot_list_index PySem.F.type_list_index (Qo (K:=K) rfl hr.Yb) (pv 3) (ak (pv 5) aC))))
   (aF (aP (dF jF (bG (ak (bA G5 (by rfl) T.cV PySem.boot_len (ak (vJ (G4 rfl) (by rfl) T.abe aa5 (ak (pv 4) aC)) aC)) aC)) (pv 4)))))))),?_⟩
  obtain⟨dx0,p0,h0⟩:=hR.at
  refine⟨_,rfl,r,_,_,rfl,h0,dN,r,a,ns,(n:Int),_,rfl,hR,fun H1 k1 hR1=>?_⟩
  refine⟨_,rfl,l,_,_,rfl,(I.tL k1).lat.lang,uZ,_,rfl,l,s0,t,S,(n:Int),rfl,(I.tL k1).lat,fun H2 hH2=>⟨_,rfl,?_⟩⟩
  have k02:=k1.trans (aL.same hH2)
  have A2:=I.tL k02
  have hR2:=hR1.same hH2
  have h64:=A2.Dc
  cases hw:s0.words[n]? with
  |none=>
   have hn:=List.getElem?_eq_none_iff.mp hw
   rw[decide_eq_false (show¬(0≤(n:Int)∧(n:Int)<(s0.words.length:Int)) by omega)]
   rw[hw] at st
   exact cB ⟨(by show 1≤sizeLine;decide),fun q hq=>D.no I st k02 hR2.ne hq⟩
  |some wd=>
   have hn:=(List.getElem?_eq_some_iff.mp hw).1
   rw[decide_eq_true (show(0≤(n:Int)∧(n:Int)<(s0.words.length:Int)) by omega)]
   rw[hw] at st
   obtain⟨wa,hwa,hW⟩:=A2.lat.W0 hw
   have hok:=Hu.of I.ci.wf hw
   refine cA ⟨_,rfl,_,rfl,l,_,_,_,_,rfl,A2.lat.lang,T.aR,T.cu,jU,_,rfl,S.wa,_,_,.ref wa,rfl,rfl,SqL.of A2.lat.words,at_of (j:=n) rfl hwa,l,wa,s0,t,S,wd,rfl,A2,hW,hok,fun H3 tq as k3 T3 hq0 hf hq hA=>?_⟩
   have hal:(Sx03.alike (s0.table wd)).length≤64:=by
    unfold Sx03.alike
    rw[List.length_map,oK]
    exact h64
   have htl:(dZ s0 wd).length=(s0.table wd).length:=List.length_map ..
   refine⟨_,rfl,tq,rfl,⟨_,SqL.of hq⟩,fun Dl hD=>?_⟩
   refine yp (K:=K) (a:=tq) (xs:=as.map V.ref) (fun i H'=>Same H3 H'∧H' Dl=some (.lst (nv ((Sx03.alike (s0.table wd)).take i)))) ⟨Same.new hD,aA⟩ (fun i H' _ p=>SqL.of (p.1 _ _ hq)) ?_ ?_
   ·rintro i z H4 hz ⟨hH4,hD4⟩
    obtain⟨ra,hra,rfl⟩:=bO hz
    have hil:=(List.getElem?_eq_some_iff.mp hra).1
    have hgl:i<(s0.table wd).length:=by rw[←htl,←hA.1];exact hil
    have hg:(s0.table wd)[i]?=some (s0.table wd)[i]:=List.getElem?_eq_getElem hgl
    generalize (s0.table wd)[i]=g at hg
    obtain⟨i1,i2⟩:=Fs.Wj hg
    have hrow: ∀(j:Nat) g,(s0.table wd)[j]?=some g→(dZ s0 wd)[j]?=some (bZ g):=fun j g e=>by unfold dZ;rw[List.getElem?_map,e];rfl
    have tk:(Sx03.alike (s0.table wd)).take (i+1)=(Sx03.alike (s0.table wd)).take i++[(s0.table wd).idxOf g]:=cI (by unfold Sx03.alike;rw[List.getElem?_map,hg];rfl)
    refine⟨rfl,jH ?_⟩
    refine⟨_,rfl,.inl ⟨rfl,_,SqL.of (hH4 _ _ hq)⟩,_,rfl,tq,ra,as,dZ s0 wd,bZ g,(s0.table wd).idxOf g,rfl,rfl,hH4 _ _ hq,⟨hA.1,fun m c zs hc hzs=>hH4 _ _ (hA.2 m c zs hc hzs)⟩,SqL.of (hH4 _ _ (hA.2 i ra _ hra (hrow i g hg))),hrow _ g i2,fun m hm e=>?_,?_⟩
    ·have hml:m<(s0.table wd).length:=by omega
     have hgm:(s0.table wd)[m]?=some (s0.table wd)[m]:=List.getElem?_eq_getElem hml
     generalize (s0.table wd)[m]=g' at hgm
     rw[hrow m g' hgm] at e
     injection e with e
     have e:=sO e
     rw[e] at hgm
     have:=(Fs.Wj hgm).1
     omega
    ·refine⟨_,hD4,by rw[bY,List.length_take];exact small (by omega),fun b o e=>?_,?_⟩
     ·rw[aJ (aG e hD)];exact hH4 b o e
     ·rw[aA,tk]
      exact congrArg (fun z=>some (HO.lst z)) (kW _ [(s0.table wd).idxOf g])
   ·rintro H4 ⟨hH4,hD4⟩
    rw[List.take_of_length_le (by rw[List.length_map,hA.1,htl];unfold Sx03.alike;rw[List.length_map];exact Nat.le_refl _)] at hD4
    have hkn:=Uw (Sx03.alike (s0.table wd))
    have hdl:=Ss _ (Sx03.alike (s0.table wd)) rfl
    refine⟨_,rfl,Dl,bh (Sx03.alike (s0.table wd)),rfl,SqL.of hD4,by rw[bU];omega,fun p Sx hp=>?_⟩
    have s5:=Same.new (o:=HO.set Sx (kinds (bh (Sx03.alike (s0.table wd))))) hp
    refine⟨p,Sx,_,rfl,aA,by rw[hkn];omega,(by show 1≤sizeLine;decide),fun p2 hp2=>?_⟩
    have s6:=s5.trans (Same.new (o:=HO.lst [V.int (kinds (bh (Sx03.alike (s0.table wd))):Nat)]) hp2)
    refine⟨_,rfl,p2,Dl,_,_,rfl,rfl,aA,s6 _ _ hD4,?_,fun q hq=>?_⟩
    ·rw[bY]
     show 1+_≤sizeLine
     exact gO (by omega)
    ·have s7:=s6.trans (Same.new (o:=HO.lst ([V.int (kinds (bh (Sx03.alike (s0.table wd))):Nat)]++nv (Sx03.alike (s0.table wd)))) hq)
     refine D.fin I st k02 hR2.ne (k3.trans (aL.same (hH4.trans s7))) (T3.same (hH4.trans s7)) (ji k3 T3 (hH4.free (s6.free hq))) ?_
     rw[aA,hkn]
     rfl
structure aao(H0 H:Hp)(fs:List Addr)(s:Sx03.St)(n:Nat):Prop where
 len:fs.length=n
 at_: ∀(j:Nat) fo,fs[j]?=some fo→∃rows,nQ H fo rows s j∧H0 fo=none∧∀a∈rows,H0 a=none
def yX(cL cR cW pt:Addr):Sp:=fun vs H Q _=>∃(l:Addr) (s:Sx03.St) (t:Nat) (S:Sh),vs=[.ref l]∧Cg cL cR cW pt H l s t S∧
 ∀H' q fs,aL [pt] H H'→dM H' pt→H q=none→H' q=some (.lst (fs.map V.ref))→aao H H' fs s s.classes.length→Q (.ref q) H'
theorem qC(F:Fun K "list_followed_by_all" "list_followed_by_all" gC f fd)(T:Txt K mg aD aK aH au aj){pt:Addr}(bT:GF P w K mg base "list_followed" 7 ["language","group"] (kO aj aD aH pt)):bJ P w K mg base CX0 8 f fd ["language"] (yX aj aD aH pt):=by
 refine F.ok fX (fun vs H Q E h=>?_) (fun cdv A outer s H vs Q E hr h=>?_)
 ·obtain⟨l,s,t,S,rfl,_⟩:=h
  rfl
 ·obtain⟨l,s0,t,S,rfl,AT,k⟩:=h
  have n16:=AT.wf.JR
  have epl:(iv (s0.classes.map fO)).length=s0.classes.length:=by rw[List.length_map,List.length_map]
  refine⟨_,(aF (aP (Bu (own:=[("group",1)]) rfl fX.nd (gH (by rfl) T.iI (ak (bA aV (by rfl) T.cV PySem.boot_len (ak (aW (pv 0) rfl) aC)) aC)) (fU (by rfl)) (fun _ _ _ _ _=>(bF (i:=1) fX.nd rfl (by first|exact Or.inl rfl|exact Or.inr rfl))) (fun _ _ _ _ _=>jG) (fun _ _ _ _ _=>(aQ bT (hr.mono (by decide)) (ak (pv 0) (ak (pv 1) aC))))))),?_⟩
  refine⟨_,rfl,l,_,_,_,_,rfl,AT.lat.lang,T.aR,T.dD,nA,S.pa,_,rfl,.inl (SqL.of AT.lat.par),(((iv (s0.classes.map fO)).length:Nat):Int),rfl,by rw[epl];omega,by rw[epl];omega,fun D hD=>?_⟩
  refine p8 (lo:=0) (n:=((((iv (s0.classes.map fO)).length:Nat):Int)).toNat) (fun i H'=>∃fs,aL [pt] H H'∧dM H' pt∧H' D=some (.lst (fs.map V.ref))∧fs.length=i∧∀(j:Nat) fo,fs[j]?=some fo→fo≠D∧∃rows,nQ H' fo rows s0 j∧(∀a∈rows,a≠D)∧H fo=none∧∀a∈rows,H a=none) ⟨[],aL.same (Same.new hD),AT.tab.same (Same.new hD),aA,rfl,fun j fo e=>by cases e⟩ ?_ ?_
  ·rintro i H2 hi ⟨fs,k2,T2,hD2,hl,hF⟩
   rw[epl] at hi
   have A2:=AT.keep k2 T2
   refine⟨rfl,jH ?_⟩
   refine⟨_,rfl,_,rfl,l,s0,t,S,i,by rw[Int.zero_add];rfl,A2.lat,A2.wf,by omega,A2.dims,A2.tab,A2.out,fun H3 fo rows k3 T3 f0 fr hF3=>?_⟩
   have kt:=KT.of k3 T2
   have hD3:=kt.lst hD2
   have nfD:fo≠D:=Ne.symm (aG hD2 f0)
   have up: ∀{fo rows j},nQ H3 fo rows s0 j→fo≠D→(∀a∈rows,a≠D)→nQ (upd H3 D (.lst (fs.map V.ref++[V.ref fo]))) fo rows s0 j:=fun{fo rows j} h a b=>h.keep (l:=[D]) (aL.upd (by simp)) (by simpa using a) fun c hc=>by simpa using b c hc
   have rD: ∀a∈rows,a≠D:=fun a ha=>Ne.symm (aG hD2 (fr a ha))
   refine⟨_,hD3,by rw[List.length_map,hl];exact small (by omega),fs++[fo],fun b o e nb=>?_,?_,?_,by rw[List.length_append,hl];rfl,fun j fo' e=>?_⟩
   ·rw[aJ (aG e hD)];exact k3 b o (k2 b o e nb) nb
   ·refine dM.keep T3 (l:=[D]) (aL.upd (by simp)) fun b hb u e=>?_
    rw[List.mem_singleton.mp hb,hD3] at e
    cases e
    exact⟨fun ps q=>(nomatch q),fun φ q=>(nomatch q)⟩
   ·rw[aA,List.map_append];rfl
   ·by_cases q:j<fs.length
    ·rw[List.getElem?_append_left q] at e
     obtain⟨n1,rws,h1,h2,h3⟩:=hF j fo' e
     exact⟨n1,rws,(h1.kt kt).keep (l:=[D]) (aL.upd (by simp)) (by simpa using n1) fun c hc=>by simpa using h2 c hc,h2,h3⟩
    ·rw[List.getElem?_append_right (by omega)] at e
     have hj:j - fs.length=0:=by
      have:=(List.getElem?_eq_some_iff.mp e).1
      simp at this
      omega
     rw[hj] at e
     have e:fo=fo':=by simpa using e
     subst e
     have ej:j=i:=by omega
     subst ej
     exact⟨nfD,rows,up hF3 nfD rD,rD,ji k2 T2 f0,fun a ha=>ji k2 T2 (fr a ha)⟩
  ·rintro H2 ⟨fs,k2,T2,hD2,hl,hF⟩
   rw[epl] at hl
   exact k H2 D fs k2 T2 hD hD2 ⟨by omega,fun j fo e=>by
    obtain⟨_,rows,h,_,h3⟩:=hF j fo e
    exact⟨rows,h,h3⟩⟩
end
def pU(b:Sx03.Bytes)(n:Nat)(gs:List Sx03.Got)(j:Nat):List Int:=((gs.zipIdx.take j).filter fun x=>x.1== .form b).flatMap fun x=>[(n:Int),(x.2:Int)]
theorem Oz{b:Sx03.Bytes}{n:Nat}{gs:List Sx03.Got}{j:Nat}{g:Sx03.Got}(h:gs[j]?=some g):pU b n gs (j+1)=if g= .form b then pU b n gs j++[(n:Int),(j:Int)] else pU b n gs j:=by
 unfold pU
 rw[cI (Fs.Ek h),List.filter_append,List.flatMap_append,List.filter_cons]
 by_cases q:g= .form b
 ·rw[if_pos q,if_pos (by simp[q])]
  rfl
 ·rw[if_neg q,if_neg (by simpa using q)]
  simp
theorem Gh(b:Sx03.Bytes)(n:Nat)(gs:List Sx03.Got)(j:Nat):(pU b n gs j).length≤2 * j:=by
 have h2: ∀l:List (Sx03.Got×Nat),(l.flatMap fun x=>[(n:Int),(x.2:Int)]).length=2 * l.length:=by
  intro l
  induction l with
  |nil=>rfl
  |cons a r ih=>rw[List.flatMap_cons,List.length_append,ih];show 2+2 * r.length=2 * (r.length+1);omega
 unfold pU
 rw[h2]
 have:=List.length_filter_le (fun x:Sx03.Got×Nat=>x.1== .form b) (gs.zipIdx.take j)
 rw[List.length_take] at this
 omega
def pW(s:Sx03.St)(b:Sx03.Bytes)(i:Nat):List Int:=(s.words.zipIdx.take i).flatMap fun w=>pU b w.2 (s.table w.1) (s.table w.1).length
theorem BJ{s:Sx03.St}{b:Sx03.Bytes}{i:Nat}{w:Sx03.Word}(h:s.words[i]?=some w):pW s b (i+1)=pW s b i++pU b i (s.table w) (s.table w).length:=by
 unfold pW
 rw[cI (Fs.Ek h),List.flatMap_append,List.flatMap_cons,List.flatMap_nil,List.append_nil]
theorem xM{s:Sx03.St}{b:Sx03.Bytes}(h:(Sx03.cells s.dims).length≤64): ∀i,i≤s.words.length→(pW s b i).length≤128 * i
 |0,_=>by unfold pW;simp
 |i+1,hi=>by
  have ih:=xM (b:=b) h i (by omega)
  have hw:s.words[i]?=some (s.words[i]'(by omega)):=List.getElem?_eq_getElem _
  rw[BJ hw,List.length_append]
  have:=Gh b i (s.table (s.words[i]'(by omega))) (s.table (s.words[i]'(by omega))).length
  rw[oK] at *
  omega
theorem Gi(s:Sx03.St)(b:Sx03.Bytes):pW s b s.words.length=(s.found b).flatMap fun x=>[Sx03.num x.1,Sx03.num x.2]:=by
 unfold pW Sx03.St.found
 rw[List.take_of_length_le (by rw[List.length_zipIdx];exact Nat.le_refl _),List.flatMap_assoc]
 refine congrArg (fun g=>List.flatMap g s.words.zipIdx) (funext fun w=>?_)
 unfold pU
 rw[List.take_of_length_le (by rw[List.length_zipIdx];exact Nat.le_refl _),List.flatMap_map]
 rfl
theorem OD(l:List (Nat×Nat)):(l.flatMap fun x=>[Sx03.num x.1,Sx03.num x.2]).length=2 * l.length:=by
 induction l with
 |nil=>rfl
 |cons a r ih=>rw[List.flatMap_cons,List.length_append,ih];show 2+2 * r.length=2 * (r.length+1);omega
section
variable{P:Program}{w:World}{K:PySem.W.Frag}{mg:Str→Option Value}{base:Heap}{au aD aj aH aK:Addr}{f:Addr}{fd:FuncData}
def Li(K:PySem.W.Frag)(cRd cL cR cW pt:Addr):Sp:=fun vs H Q _=>∃(l r:Addr) (s:Sx03.St) (t:Nat) (S:Sh) (b:List Nat),vs=[.ref l,.ref r]∧vq K cRd cL cR cW pt H l r s t S ((b.length:Int)::bh b)∧b.length≤1000∧sZ cL cR cW pt H l r s t S (.find b) Q
theorem Lj(F:Fun K "call_find" "call_find" uP f fd)(T:Txt K mg aD aK aH au aj){pt:Addr}(aM:GM P w K mg base au "take_list" 3 ["self"] (cQ K au))(eE:GF P w K mg base "tell_form" 1 ["form"] (Ge))(cH:GF P w K mg base "list_followed_by_all" 8 ["language"] (yX aj aD aH pt))(fu:GF P w K mg base "list_standing" 5 ["language","followed","word"] (oJ aj aD aH)):bJ P w K mg base CX0 9 f fd ["language","told"] (Li K au aj aD aH pt):=by
 refine F.ok fG (fun vs H Q E h=>?_) (fun cdv A outer s H vs Q E hr h=>?_)
 ·obtain⟨l,r,s,t,S,b,rfl,_⟩:=h
  rfl
 ·obtain⟨l,r,s0,t,S,b,rfl,I,hbl,D⟩:=h
  obtain⟨a,ns,hR⟩:=I.ci.rd
  have st:=Fs.IK I.dims b
  have h64:=(I.tL (aL.same (Same.refl H))).Dc
  have hwl:=I.ci.wf.TX
  refine⟨_,(aB (aX (i:=2) fG.nd rfl (by first|exact Or.inl rfl|exact Or.inr rfl) (aQ eE (hr.mono (by decide)) (ak (bf (pv 1) aM (hr.mono (by decide))) aC)))
   (aB (aX (i:=3) fG.nd rfl (by first|exact Or.inl rfl|exact Or.inr rfl) (aQ cH (hr.mono (by decide)) (ak (pv 0) aC)))
   (aB (aX (i:=4) fG.nd rfl (by first|exact Or.inl rfl|exact Or.inr rfl) (bG aC))
   (aB (dU PassesOwn.never rfl (vL (by rfl) T.jA (ak (aW (pv 0) rfl) aC)) (qN rfl (dz (bF (i:=5) fG.nd rfl (by first|exact Or.inl rfl|exact Or.inr rfl)) (dz (bF (i:=6) fG.nd rfl (by first|exact Or.inl rfl|exact Or.inr rfl)) mC)))
   (aF (dU PassesOwn.never rfl (vL (by rfl) T.jA (ak (aQ fu (hr.mono (by decide)) (ak (pv 0) (ak (cJ bK (pv 3) (aW (pv 6) rfl) (fun _ _=>rfl)) (ak (pv 6) aC)))) aC)) (qN rfl (dz (bF (i:=7) fG.nd rfl (by first|exact Or.inl rfl|exact Or.inr rfl)) (dz (bF (i:=8) fG.nd rfl (by first|exact Or.inl rfl|exact Or.inr rfl)) mC)))
   (aF (bI (aY (Vx hr.units) (pv 8) (pv 2) (bx _)) (aF (dj (jw PySem.F.plainAttrs_list PySem.F.slot_list_extend PySem.F.type_list_extend pZ (pv 4) (ak (bG (ak (pv 5) (ak (pv 7) aC))) aC)))) aZ)))))
   (aF (aP (dF jF (bG (ak (dF Xm (bA aV (by rfl) T.cV PySem.boot_len (ak (pv 4) aC)) bB) aC)) (pv 4)))))))),?_⟩
  obtain⟨dx0,p0,h0⟩:=hR.at
  refine⟨_,rfl,r,_,_,rfl,h0,cG,r,a,ns,bh b,[],rfl,(by rw[bU,List.append_nil];exact hR),fun H1 ca k1 hR1 hc0 hc1=>?_⟩
  refine⟨.ref ca,some b,rfl,⟨ca,rfl,hc1⟩,fun z e=>by cases e;exact hbl,fun H2 so hH2 pN hso=>?_⟩
  have k02:=k1.trans (aL.same hH2)
  have A2:=I.tL k02
  have hR2:=hR1.same hH2
  refine⟨_,rfl,l,s0,t,S,rfl,A2,fun H3 fq fs k3 T3 hq0 hq hFs=>?_⟩
  have kt3:=KT.of k3 A2.tab
  have A3:=A2.keep k3 T3
  refine⟨Nat.zero_le _,fun fo hfo=>?_⟩
  have sf:=Same.new (o:=HO.lst []) hfo
  refine⟨_,rfl,l,_,_,_,_,rfl,(A3.same sf).lat.lang,T.aR,T.cu,jU,S.wa,_,rfl,SqL.of (A3.same sf).lat.words,ux (K:=K) (a:=S.wa) (xs:=S.was.map V.ref) (fun i σ H'=>∃(v5 v6 v7 v8:Option V),σ=[some (.ref l),some (.ref r),some (.ref so),some (.ref fq),some (.ref fo),v5,v6,v7,v8]∧Same H3 H'∧H' fo=some (.lst (iv (pW s0 b i)))) ?_ ?_ ?_ ?_⟩
  ·exact⟨_,_,_,_,rfl,sf,aA⟩
  ·rintro i σ H' ⟨_,_,_,_,_,hH',_⟩
   exact SqL.of (A3.same hH').lat.words
  ·rintro i x Tp σ H4 hx hT ⟨v5,v6,v7,v8,rfl,hH4,W7⟩
   obtain⟨wa,hwa,rfl⟩:=bO hx
   have hil:i<s0.words.length:=by rw[←A3.lat.tG];exact(List.getElem?_eq_some_iff.mp hwa).1
   have hw:s0.words[i]?=some s0.words[i]:=List.getElem?_eq_getElem hil
   generalize s0.words[i]=wd at hw
   have hok:=Hu.of I.ci.wf hw
   have sT:=hH4.trans (Same.new (o:=HO.tup [.int (i:Nat),.ref wa]) hT)
   have aap:=Same.new (o:=HO.tup [.int (i:Nat),.ref wa]) hT _ _ W7
   refine⟨Tp,_,rfl,SqT.of aA,rfl,_,_,rfl,_,_,rfl,rfl,?_⟩
   show Xj _ _ _ _ _ (upd H4 Tp (HO.tup [.int (i:Nat),.ref wa]))
   generalize upd H4 Tp (HO.tup [.int (i:Nat),.ref wa])=H5 at sT aap
   have A5:=A3.same sT
   obtain⟨wa',Yy,hW⟩:=A5.lat.W0 hw
   have ewa:wa'=wa:=by
    rw[List.getElem?_map,hwa] at Yy
    have Yy:V.ref wa=V.ref wa':=Option.some.inj Yy
    injection Yy with e
    exact e.symm
   subst ewa
   obtain⟨dxw,sa,d,as0,kvs,w1,_⟩:=hW.ex
   have hcl:wd.cls<fs.length:=by rw[hFs.len];exact hok.cls
   have hfl:fs[wd.cls]?=some fs[wd.cls]:=List.getElem?_eq_getElem hcl
   generalize fs[wd.cls]=fl at hfl
   obtain⟨rows,hF,_⟩:=hFs.at_ _ fl hfl
   refine⟨_,rfl,_,rfl,_,rfl,wa',_,dxw,_,_,rfl,w1,T.iG,T.jP,yL,fq,_,_,.ref fl,rfl,rfl,SqL.of (sT _ _ hq),at_of (j:=wd.cls) rfl (by rw[List.getElem?_map,hfl];rfl),_,rfl,
    l,fl,wa',s0,t,S,rows,wd,rfl,⟨A5.lat,A5.wf,A5.dims,hF.same sT,hW,hok.stems,hok.odd⟩,fun H6 tq as hH6 htq0 has0 htq hA=>?_⟩
   have hl1:=xM (b:=b) h64 i (by omega)
   have htl:(dZ s0 wd).length=(s0.table wd).length:=List.length_map ..
   have s36:=sT.trans hH6
   have hfo6:=hH6 _ _ aap
   have nfo: ∀{c:Addr},H5 c=none→c≠fo:=fun{c} hc e=>by rw[e,aap] at hc;cases hc
   have Y7: ∀{H':Hp},aL [fo] H6 H'→Same H3 H':=fun{H'} kp c o e=>kp c o (s36 c o e) (by simpa using aG e hfo)
   have kT: ∀{H':Hp},aL [fo] H6 H'→H' tq=some (.lst (as.map V.ref)):=fun{H'} kp=>kp _ _ htq (by simpa using nfo htq0)
   refine⟨tq,_,rfl,SqL.of htq,ux (K:=K) (a:=tq) (xs:=as.map V.ref) (fun j σ H'=>∃(v7 v8:Option V),σ=[some (.ref l),some (.ref r),some (.ref so),some (.ref fq),some (.ref fo),some (.int (i:Nat)),some (.ref wa'),v7,v8]∧aL [fo] H6 H'∧H' fo=some (.lst (iv (pW s0 b i++pU b i (s0.table wd) j)))) ?_ ?_ ?_ ?_⟩
   ·refine⟨_,_,rfl,aL.same (Same.refl _),?_⟩
    rw[hfo6]
    show _=some (HO.lst (iv (pW s0 b i++[])))
    rw[List.append_nil]
   ·rintro j σ H' ⟨_,_,_,kp,_⟩
    exact SqL.of (kT kp)
   ·rintro j x Tq σ H7 hx hTq ⟨v7,v8,rfl,kp,aaq⟩
    obtain⟨ra,hra,rfl⟩:=bO hx
    have hgl:j<(s0.table wd).length:=by rw[←htl,←hA.1];exact(List.getElem?_eq_some_iff.mp hra).1
    have hg:(s0.table wd)[j]?=some (s0.table wd)[j]:=List.getElem?_eq_getElem hgl
    generalize (s0.table wd)[j]=g at hg
    have hj64:j<64:=by rw[oK] at hgl;omega
    have hra6:H6 ra=some (.lst (iv (bZ g))):=hA.2 j ra _ hra (by unfold dZ;rw[List.getElem?_map,hg];rfl)
    have aar:=kp _ _ hra6 (by simpa using nfo (has0 ra (List.mem_of_getElem? hra)))
    have hso7:H7 so=some (.lst (iv (bZ (.form b)))):=Y7 kp _ _ (kt3.lst hso)
    have sq:=Same.new (o:=HO.tup [.int (j:Nat),.ref ra]) hTq
    have kp8:=kp.trans (aL.same sq)
    have aas:=sq _ _ aaq
    have hra8:=sq _ _ aar
    have hso8:=sq _ _ hso7
    have hup:=Oz (b:=b) (n:=i) hg
    have hl2:=Gh b i (s0.table wd) j
    refine⟨Tq,_,rfl,SqT.of aA,rfl,_,_,rfl,_,_,rfl,rfl,?_⟩
    refine⟨_,rfl,_,rfl,.list ((bZ g).map PyData.int),.list ((bZ (.form b)).map PyData.int),uw (SqL.of hra8),uw (SqL.of hso8),shaped_ints _,shaped_ints _,_,rfl,?_⟩
    have ee:PyData.eqv (.list ((bZ g).map PyData.int)) (.list ((bZ (.form b)).map PyData.int))=decide (bZ g=bZ (.form b)):=ur _ _
    rw[ee]
    by_cases q:g= .form b
    ·rw[decide_eq_true (by rw[q])]
     rw[if_pos q] at hup
     refine cB ?_
     refine⟨_,rfl,.inl ⟨rfl,_,SqL.of aas⟩,_,rfl,_,rfl,(by show 2≤sizeLine;decide),fun p hp=>?_⟩
     have sp:=Same.new (o:=HO.lst [V.int (i:Nat),V.int (j:Nat)]) hp
     refine⟨fo,p,_,_,rfl,rfl,sp _ _ aas,aA,?_,?_⟩
     ·rw[List.length_map,List.length_append]
      show _+2≤sizeLine
      exact gO (by omega)
     ·refine⟨_,_,rfl,kp8.trans ((aL.same sp).trans (aL.upd (by simp))),?_⟩
      rw[aA,hup,←List.append_assoc]
      refine congrArg (fun z=>some (HO.lst z)) ?_
      show _=List.map V.int _
      rw[List.map_append]
      rfl
    ·rw[decide_eq_false (fun e=>q (sO e))]
     rw[if_neg q] at hup
     exact cA ⟨_,_,rfl,kp8,by rw[hup];exact aas⟩
   ·rintro σ H7 ⟨v7,v8,rfl,kp,aaq⟩
    refine⟨_,_,_,_,rfl,Y7 kp,?_⟩
    rw[aaq,BJ hw,List.length_map,hA.1,htl]
  ·rintro σ H4 ⟨v5,v6,v7,v8,rfl,hH4,W7⟩
   have hl1:=xM (b:=b) h64 s0.words.length (Nat.le_refl _)
   rw[List.length_map,A3.lat.tG,Gi] at W7
   rw[Gi] at hl1
   have hcnt:=OD (s0.found b)
   refine⟨_,rfl,fo,_,rfl,.inl (SqL.of W7),_,_,rfl,rfl,⟨by decide,by decide⟩,(by show 1≤sizeLine;decide),fun p hp=>?_⟩
   have e2:((((iv ((s0.found b).flatMap fun x=>[Sx03.num x.1,Sx03.num x.2])).length:Nat):Int) / 2)=Sx03.num (s0.found b).length:=by
    rw[List.length_map,hcnt]
    show _=(((s0.found b).length:Nat):Int)
    omega
   have sp:=Same.new (o:=HO.lst [V.int ((((iv ((s0.found b).flatMap fun x=>[Sx03.num x.1,Sx03.num x.2])).length:Nat):Int) / 2)]) hp
   refine⟨_,rfl,p,fo,_,_,rfl,rfl,aA,sp _ _ W7,?_,fun q hq=>?_⟩
   ·rw[List.length_map]
    show 1+_≤sizeLine
    exact gO (by omega)
   ·have s6:=hH4.trans (sp.trans (Same.new (o:=HO.lst ([V.int ((((iv ((s0.found b).flatMap fun x=>[Sx03.num x.1,Sx03.num x.2])).length:Nat):Int) / 2)]++iv ((s0.found b).flatMap fun x=>[Sx03.num x.1,Sx03.num x.2]))) hq))
    refine D.fin I st k02 hR2.ne (k3.trans (aL.same s6)) (T3.same s6) (ji k3 T3 (hH4.free (sp.free hq))) ?_
    rw[aA]
    show some (HO.lst (V.int ((((iv ((s0.found b).flatMap fun x=>[Sx03.num x.1,Sx03.num x.2])).length:Nat):Int) / 2)::iv ((s0.found b).flatMap fun x=>[Sx03.num x.1,Sx03.num x.2])))=_
    rw[e2]
    rfl
end
abbrev Pair:=Sx03.Cell×Sx03.Bytes
def encP(ps:List Pair):List Int:=ps.flatMap fun x=>(x.1.length:Int)::(bh x.1++((x.2.length:Int)::bh x.2))
theorem Ux{ps:List Pair}{i:Nat}{x:Pair}(h:ps[i]?=some x):encP (ps.drop i)=(x.1.length:Int)::(bh x.1++((x.2.length:Int)::(bh x.2++encP (ps.drop (i+1))))):=by
 have hi:i<ps.length:=(List.getElem?_eq_some_iff.mp h).1
 have e:ps[i]=x:=(List.getElem?_eq_some_iff.mp h).2
 rw[List.drop_eq_getElem_cons hi,e]
 unfold encP
 rw[List.flatMap_cons]
 simp
structure Df(H:Hp)(ts:List Addr)(ps:List Pair):Prop where
 len:ts.length=ps.length
 at_: ∀(j:Nat) T p,ts[j]?=some T→ps[j]?=some p→∃va ba,H T=some (.tup [.ref va,.ref ba])∧H va=some (.lst (nv p.1))∧H ba=some (.lst (nv p.2))
theorem Df.kt{H H':Hp}{ts:List Addr}{ps:List Pair}(h:Df H ts ps)(k:KT H H'):Df H' ts ps:=⟨h.len,fun j T p h1 h2=>by
 obtain⟨va,ba,e1,e2,e3⟩:=h.at_ j T p h1 h2
 exact⟨va,ba,k _ _ e1 fun ps q=>(nomatch q),k.lst e2,k.lst e3⟩⟩
def qD(s:Sx03.St)(ts:List Sx03.Bytes)(ps:List Pair)(i:Nat):List Nat:=(List.range i).filter fun k=>ps.all fun x=>s.got ⟨k,ts,[]⟩ x.1== .form x.2
theorem QZ(s:Sx03.St)(ts:List Sx03.Bytes)(ps:List Pair)(i:Nat):qD s ts ps (i+1)=if(ps.all fun x=>s.got ⟨i,ts,[]⟩ x.1== .form x.2)=true then qD s ts ps i++[i] else qD s ts ps i:=by
 unfold qD
 rw[List.range_succ,List.filter_append,List.filter_cons]
 split
 ·rfl
 ·simp
theorem Jj(s:Sx03.St)(ts:List Sx03.Bytes)(ps:List Pair)(i:Nat):(qD s ts ps i).length≤i:=by
 unfold qD
 refine Nat.le_trans (List.length_filter_le _ _) ?_
 rw[List.length_range]
 exact Nat.le_refl _
theorem all_map{α:Type}(f:α→Bool)(l:List α):(l.map f).all id=l.all f:=by
 induction l with
 |nil=>rfl
 |cons a r ih=>simp[ih]
section
variable{P:Program}{w:World}{K:PySem.W.Frag}{mg:Str→Option Value}{base:Heap}{au aD aj aH aK:Addr}{f:Addr}{fd:FuncData}
def Lk(K:PySem.W.Frag)(c:Addr):Sp:=fun vs H Q _=>∃(r a:Addr) (ns:List Int) (ps:List Pair) (rest:List Int),vs=[.ref r]∧ps.length≤1000∧gG K c H r a ns ((ps.length:Int)::(encP ps++rest))∧
 ∀H' q ts,aL [r] H H'→gG K c H' r a ns rest→H q=none→H' q=some (.lst (ts.map V.ref))→Df H' ts ps→Q (.ref q) H'
theorem Hy(F:Fun K "read_pairs" "read_pairs" rE f fd)(T:Txt K mg aD aK aH au aj)(aN:GM P w K mg base au "take" 2 ["self"] (gD K au))(aM:GM P w K mg base au "take_list" 3 ["self"] (cQ K au)):bJ P w K mg base CX0 4 f fd ["told"] (Lk K au):=by
 refine F.ok lg (fun vs H Q E h=>?_) (fun cdv A outer s H vs Q E hr h=>?_)
 ·obtain⟨r,a,ns,ps,rest,rfl,_⟩:=h
  rfl
 ·obtain⟨r,a,ns,ps,rest,rfl,hn,hR,k⟩:=h
  refine⟨_,(aB (aX (i:=1) lg.nd rfl (by first|exact Or.inl rfl|exact Or.inr rfl) (bG aC))
   (aB (dU PassesOwn.never rfl (gH (by rfl) T.iI (ak (bf (pv 0) aN (hr.mono (by decide))) aC)) (bF (i:=2) lg.nd rfl (by first|exact Or.inl rfl|exact Or.inr rfl))
   (aB (aX (i:=3) lg.nd rfl (by first|exact Or.inl rfl|exact Or.inr rfl) (bf (pv 0) aM (hr.mono (by decide))))
   (aF (dj (jw PySem.F.plainAttrs_list PySem.F.slot_list_append PySem.F.type_list_append fQ (pv 1) (ak (PL (ak (pv 3) (ak (bf (pv 0) aM (hr.mono (by decide))) aC))) aC))))))
   (aF (aP (pv 1))))),?_⟩
  refine⟨Nat.zero_le _,fun D hD=>?_⟩
  have sD:=Same.new (o:=HO.lst []) hD
  have hR0:=hR.same sD
  obtain⟨dx0,p0,h1⟩:=hR0.at
  have hDr:D≠r:=by
   obtain⟨_,_,q⟩:=hR.ins
   exact Ne.symm (aG q hD)
  refine⟨_,rfl,r,_,_,rfl,h1,dN,r,a,ns,_,_,rfl,hR0,fun H1 k1 hR1=>?_⟩
  refine⟨(ps.length:Int),rfl,by omega,by omega,vI (lo:=0) (n:=(ps.length:Int).toNat) (fun i σ H'=>∃(ts:List Addr) (v2 v3:Option V),σ=[some (.ref r),some (.ref D),v2,v3]∧ts.length=i∧H' D=some (.lst (ts.map V.ref))∧aL [r] H H'∧gG K au H' r a ns (encP (ps.drop i)++rest)∧
   ∀(j:Nat) T p,ts[j]?=some T→ps[j]?=some p→∃va ba,H' T=some (.tup [.ref va,.ref ba])∧H' va=some (.lst (nv p.1))∧H' ba=some (.lst (nv p.2))∧va≠D∧ba≠D) ?_ ?_ ?_⟩
  ·exact⟨[],_,_,rfl,rfl,k1 _ _ aA (by simpa using hDr),(aL.same sD).trans k1,hR1,fun j T p e=>by cases e⟩
  ·rintro i σ H2 hi ⟨ts,v2,v3,rfl,hl,hD2,kp,hR2,hA⟩
   have hi:i<ps.length:=by omega
   have hx:ps[i]?=some ps[i]:=List.getElem?_eq_getElem hi
   generalize ps[i]=p at hx
   rw[Ux hx] at hR2
   obtain⟨dx1,p1,g1⟩:=hR2.at
   refine⟨_,rfl,r,_,_,rfl,g1,cG,r,a,ns,bh p.1,((p.2.length:Int)::(bh p.2++encP (ps.drop (i+1))))++rest,rfl,(by rw[bU,←List.append_assoc,←List.cons_append];exact hR2),fun H3 va k3 hR3 hv0 hv3=>?_⟩
   have hD3:=k3 _ _ hD2 (by simpa using hDr)
   obtain⟨dx2,p2,g2⟩:=hR3.at
   have hvD:va≠D:=Ne.symm (aG hD2 hv0)
   refine⟨_,rfl,.inl ⟨rfl,_,SqL.of hD3⟩,_,rfl,_,rfl,r,_,_,rfl,g2,cG,r,a,ns,bh p.2,encP (ps.drop (i+1))++rest,rfl,(by rw[bU,←List.append_assoc];exact hR3),fun H4 ba k4 hR4 hb0 hb4=>?_⟩
   have hD4:=k4 _ _ hD3 (by simpa using hDr)
   have hbD:ba≠D:=Ne.symm (aG hD3 hb0)
   refine⟨(by show 2≤sizeLine;decide),fun Tp hT=>?_⟩
   have sT:=Same.new (o:=HO.tup [.ref va,.ref ba]) hT
   have hD5:=sT _ _ hD4
   have nTD:Tp≠D:=Ne.symm (aG hD4 hT)
   refine⟨D,_,_,rfl,rfl,hD5,by rw[List.length_map,hl];exact small (by omega),ts++[Tp],_,_,rfl,by rw[List.length_append,hl];rfl,?_,?_,?_,?_⟩
   ·rw[aA,List.map_append];rfl
   ·intro b o e nb
    rw[aJ (aG e hD)]
    exact sT _ _ (k4 b o (k3 b o (kp b o e nb) nb) nb)
   ·obtain⟨dx,p',m1,m2,m3,m4⟩:=hR4
    obtain⟨_,_,m5,m6,_⟩:=hR
    exact⟨dx,p',by rw[aJ (Ne.symm hDr)];exact sT _ _ m1,m6.later (fun b o e nb=>sT _ _ (k4 b o (k3 b o (kp b o e nb) nb) nb)) m5 hD,m3,m4⟩
   ·intro j T q hT' hq
    have nr: ∀{H5:Hp} {c:Addr} {o:HO},H5 c=some o→(∃dx fs,H5 r=some (.ins au dx fs))→(∀C dx fs,o≠ .ins C dx fs)→c∉[r]:=fun{H5 c o} e hr no m=>by
     obtain⟨dx,fs,z⟩:=hr
     rw[List.mem_singleton.mp m,z] at e
     cases e
     exact no _ _ _ rfl
    by_cases qj:j<ts.length
    ·rw[List.getElem?_append_left qj] at hT'
     obtain⟨va',ba',e1,e2,e3,e4,e5⟩:=hA j T q hT' hq
     have st: ∀{c:Addr} {o:HO},H2 c=some o→(∀C dx fs,o≠ .ins C dx fs)→c≠D→(upd (upd H4 Tp (HO.tup [.ref va,.ref ba])) D (.lst (ts.map V.ref++[.ref Tp]))) c=some o:=fun{c o} e no nD=>by
      rw[aJ nD]
      have x3:=k3 _ _ e (nr e hR2.ins no)
      exact sT _ _ (k4 _ _ x3 (nr x3 hR3.ins no))
     exact⟨va',ba',st e1 (fun _ _ _ z=>(nomatch z)) (d8 e1 hD2 (fun z=>nomatch z)),st e2 (fun _ _ _ z=>(nomatch z)) e4,st e3 (fun _ _ _ z=>(nomatch z)) e5,e4,e5⟩
    ·rw[List.getElem?_append_right (by omega)] at hT'
     have hj:j - ts.length=0:=by
      have:=(List.getElem?_eq_some_iff.mp hT').1
      simp at this
      omega
     rw[hj] at hT'
     have e:Tp=T:=by simpa using hT'
     subst e
     have ej:j=i:=by omega
     subst ej
     rw[hx] at hq
     cases hq
     refine⟨va,ba,by rw[aJ nTD,aA],?_,?_,hvD,hbD⟩
     ·rw[aJ hvD]
      exact sT _ _ (k4 _ _ hv3 (nr hv3 hR3.ins (fun _ _ _ z=>(nomatch z))))
     ·rw[aJ hbD]
      exact sT _ _ hb4
  ·rintro σ H2 ⟨ts,v2,v3,rfl,hl,hD2,kp,hR2,hA⟩
   have e:(ps.length:Int).toNat=ps.length:=by omega
   rw[e] at hl hR2
   rw[List.drop_length] at hR2
   refine⟨_,rfl,k H2 D ts kp hR2 hD hD2 ⟨hl,fun j T p h1 h2=>?_⟩⟩
   obtain⟨va,ba,e1,e2,e3,_⟩:=hA j T p h1 h2
   exact⟨va,ba,e1,e2,e3⟩
def Sv(K:PySem.W.Frag)(cRd cL cR cW pt:Addr):Sp:=fun vs H Q _=>∃(l r:Addr) (s:Sx03.St) (t:Nat) (S:Sh) (ts:List (List Nat)) (ps:List Pair),vs=[.ref l,.ref r]∧vq K cRd cL cR cW pt H l r s t S ((ts.length:Int)::(enc (ts.map bh)++(ps.length:Int)::encP ps))∧ts.length≤100∧ps.length≤100∧(∀p∈ps,p.2.length≤100)∧sZ cL cR cW pt H l r s t S (.may ts ps) Q
theorem OJ(F:Fun K "call_may" "call_may" wU f fd)(T:Txt K mg aD aK aH au aj){pt:Addr}(bQ:GM P w K mg base au "take_lists" 4 ["self"] (lH K au))(sS:GF P w K mg base "read_pairs" 4 ["told"] (Lk K au))(fL:GF P w K mg base "are_stems" 1 ["stems"] (yO))(mU:GF P w K mg base "is_cell" 2 ["sizes","values"] (Kf K))(bH:GF P w K mg base "number_cell" 1 ["sizes","values"] (jT K))(eE:GF P w K mg base "tell_form" 1 ["form"] (Ge))(cH:GF P w K mg base "list_followed_by_all" 8 ["language"] (yX aj aD aH pt))(sH:GC P w K mg base "Word" aH 1 ["self","group","stems"] (yN aH))(cP:GF P w K mg base "find_standing" 4 ["language","followed","word","cell"] (nR aj aD aH)):bJ P w K mg base CX0 9 f fd ["language","told"] (Sv K au aj aD aH pt):=by
 refine F.ok cU (fun vs H Q E h=>?_) (fun cdv A outer s H vs Q E hr h=>?_)
 ·obtain⟨l,r,s,t,S,ts,ps,rfl,_⟩:=h
  rfl
 ·obtain⟨l,r,s0,t,S,ts,ps,rfl,I,hts,hps,hpl,D⟩:=h
  obtain⟨a,ns,hR⟩:=I.ci.rd
  have st:=Fs.Nu I.dims ts ps
  have hdm:=I.ci.wf.dimsOk I.dims
  have n16:=I.ci.wf.JR
  refine⟨_,(aB (aX (i:=2) cU.nd rfl (by first|exact Or.inl rfl|exact Or.inr rfl) (bf (pv 1) bQ (hr.mono (by decide))))
   (aB (aX (i:=3) cU.nd rfl (by first|exact Or.inl rfl|exact Or.inr rfl) (aQ sS (hr.mono (by decide)) (ak (pv 1) aC)))
   (aB (bI (xX (gM (fM (aQ fL (hr.mono (by decide)) (ak (pv 2) aC)))) (qM (gM (fM (bA (Vw rfl) (by rfl) T.YZ YX (ak (Bu (own:=[("values",4),("form",5)]) rfl cU.nd (eV (pv 3)) (fU (by rfl)) (fun _ _ _ _ _=>(En (K:=K) (i:=4) (j:=5) rfl rfl cU.nd rfl rfl rfl rfl)) (fun _ _ _ _ _=>jG) (fun _ _ _ _ _=>(aQ mU (hr.mono (by decide)) (ak (JX (K:=K) rfl (pv 0) rfl) (ak (pv 4) aC))))) aC)))))).pt (aF (aP (bG (ak (bW T.cX) aC)))) aZ)
   (aB (uh (own:=[("values",4),("form",5)]) (i:=6) rfl cU.nd rfl rfl (yj rfl rfl rfl rfl) (eV (pv 3)) (fU (by rfl)) (fun _ _ _ _ _=>(En (K:=K) (i:=4) (j:=5) rfl rfl cU.nd rfl rfl rfl rfl)) (fun _ _ _ _ _=>jG) (fun _ _ _ _ _=>(PL (ak (aQ bH (hr.mono (by decide)) (ak (JX (K:=K) rfl (pv 0) rfl) (ak (pv 4) aC))) (ak (aQ eE (hr.mono (by decide)) (ak (pv 5) aC)) aC)))))
   (aB (aX (i:=7) cU.nd rfl (by first|exact Or.inl rfl|exact Or.inr rfl) (bG aC))
   (aB (dU PassesOwn.never rfl (vL (by rfl) T.jA (ak (aQ cH (hr.mono (by decide)) (ak (pv 0) aC)) aC)) (qN rfl (dz (bF (i:=8) cU.nd rfl (by first|exact Or.inl rfl|exact Or.inr rfl)) (dz (bF (i:=9) cU.nd rfl (by first|exact Or.inl rfl|exact Or.inr rfl)) mC)))
   (aB (aX (i:=10) cU.nd rfl (by first|exact Or.inl rfl|exact Or.inr rfl) (jd sH (hr.mono (by decide)) (ak (pv 8) (ak (pv 2) aC))))
   (aF (bI (fM (bA (Vw rfl) (by rfl) T.YZ YX (ak (Bu (own:=[("cell",11),("form",5)]) rfl cU.nd (eV (pv 6)) (fU (by rfl)) (fun _ _ _ _ _=>(En (K:=K) (i:=11) (j:=5) rfl rfl cU.nd rfl rfl rfl rfl)) (fun _ _ _ _ _=>jG) (fun _ _ _ _ _=>(nW (Yd (K:=K) rfl hr.units) (aQ cP (hr.mono (by decide)) (ak (pv 0) (ak (pv 9) (ak (pv 10) (ak (pv 11) aC))))) (pv 5) (bx _)))) aC))) (aF (dj (jw PySem.F.plainAttrs_list PySem.F.slot_list_append PySem.F.type_list_append fQ (pv 7) (ak (pv 8) aC)))) aZ))))
   (aF (aP (dF jF (bG (ak (bA aV (by rfl) T.cV PySem.boot_len (ak (pv 7) aC)) aC)) (pv 7)))))))))),?_⟩
  obtain⟨dx0,p0,h0⟩:=hR.at
  refine⟨_,rfl,r,_,_,rfl,h0,pK,r,a,ns,ts.map bh,(ps.length:Int)::encP ps,rfl,by rw[List.length_map];omega,(by rw[List.length_map];exact hR),fun H1 sa as k1 hR1 hs0 hs1 has hA=>?_⟩
  refine⟨_,rfl,r,a,ns,ps,[],rfl,by omega,(by rw[List.append_nil];exact hR1),fun H2 pq tp k2 hR2 hp0 hp2 hP=>?_⟩
  have k02:=k1.trans k2
  have nrl: ∀{c:Addr} {xs:List V},H1 c=some (.lst xs)→c∉[r]:=fun{c xs} e m=>by
   obtain⟨dx,fs,z⟩:=hR1.ins
   rw[List.mem_singleton.mp m,z] at e
   cases e
  have hs2:=k2 _ _ hs1 (nrl hs1)
  have hA2:bD H2 as (ts.map bh):=⟨hA.1,fun j b xs hb hx=>k2 _ _ (hA.2 j b xs hb hx) (nrl (hA.2 j b xs hb hx))⟩
  refine⟨_,rfl,sa,as,ts,rfl,hs2,hA2,fun H3 hH3=>⟨_,rfl,?_⟩⟩
  have k03:=k02.trans (aL.same hH3)
  have A3:=I.tL k03
  have hR3:=hR2.same hH3
  have hp3:=hH3 _ _ hp2
  have hP3:=hP.kt (KT.same hH3)
  cases hs:Sx03.stemsOk ts with
  |false=>
   rw[hs] at st
   exact cB (cB ⟨(by show 1≤sizeLine;decide),fun q hq=>D.no I st k03 hR3.ne hq⟩)
  |true=>
   rw[hs] at st
   refine cA ?_
   refine⟨_,rfl,pq,rfl,⟨_,SqL.of hp3⟩,fun D1 hD1=>?_⟩
   refine yp (K:=K) (a:=pq) (xs:=tp.map V.ref) (fun i H'=>Same H3 H'∧H' D1=some (.lst (((ps.take i).map fun x=>Sx03.isCell s0.dims x.1).map V.bl))) ⟨Same.new hD1,aA⟩ (fun i H' _ p=>SqL.of (p.1 _ _ hp3)) ?_ ?_
   ·rintro i z H4 hz ⟨hH4,hD4⟩
    obtain⟨Tp,hTp,rfl⟩:=bO hz
    have hil:i<ps.length:=by rw[←hP.len];exact(List.getElem?_eq_some_iff.mp hTp).1
    have hx:ps[i]?=some ps[i]:=List.getElem?_eq_getElem hil
    generalize ps[i]=p at hx
    obtain⟨va,ba,e1,e2,e3⟩:=hP3.at_ i Tp p hTp hx
    have A4:=A3.same hH4
    refine⟨Tp,_,rfl,SqT.of (hH4 _ _ e1),rfl,_,_,rfl,_,_,rfl,rfl,rfl,jH ?_⟩
    refine⟨_,rfl,l,_,_,_,_,rfl,A4.lat.lang,T.aR,T.bM,iu,_,rfl,S.za,va,s0.dims,p.1,rfl,SqL.of (A4.lat.sub _ _ A4.lat.sizes),SqL.of (hH4 _ _ e2),fun H5 hH5=>?_⟩
    refine⟨_,hH5 _ _ hD4,by rw[List.length_map,List.length_map,List.length_take];exact small (by omega),fun b o e=>?_,?_⟩
    ·rw[aJ (aG e hD1)];exact hH5 _ _ (hH4 b o e)
    ·rw[aA,cI hx,List.map_append,List.map_append];rfl
   ·rintro H4 ⟨hH4,hD4⟩
    rw[List.length_map,hP.len,List.take_length] at hD4
    refine⟨D1,_,rfl,SqL.of hD4,_,rfl,?_⟩
    rw[all_map]
    have k04:=k03.trans (aL.same hH4)
    have A4:=A3.same hH4
    have hR4:=hR3.same hH4
    cases hall:(ps.all fun x=>Sx03.isCell s0.dims x.1) with
    |false=>
     rw[hall] at st
     exact cB ⟨(by show 1≤sizeLine;decide),fun q hq=>D.no I st k04 hR4.ne hq⟩
    |true=>
     rw[hall] at st
     have hcell: ∀p∈ps,Sx03.isCell s0.dims p.1=true:=List.all_eq_true.mp hall
     refine cA ?_
     have hp4:=hH4 _ _ hp3
     have hP4:=hP3.kt (KT.same hH4)
     refine⟨_,rfl,pq,rfl,⟨_,SqL.of hp4⟩,fun aq hD2=>?_⟩
     refine yp (K:=K) (a:=pq) (xs:=tp.map V.ref) (fun i H'=>∃tas:List Addr,Same H4 H'∧H' aq=some (.lst (tas.map V.ref))∧tas.length=i∧∀(j:Nat) Ta p,tas[j]?=some Ta→ps[j]?=some p→∃ra,H' Ta=some (.tup [.int (Fs.num s0.dims p.1:Nat),.ref ra])∧H' ra=some (.lst (iv (bZ (.form p.2))))∧ra≠aq)
      ⟨[],Same.new hD2,aA,rfl,fun j Ta p e=>by cases e⟩ (fun i H' _ p=>by obtain⟨_,h,_⟩:=p;exact SqL.of (h _ _ hp4)) ?_ ?_
     ·rintro i z H5 hz ⟨tas,hH5,hq5,hl5,hT5⟩
      obtain⟨Tp,hTp,rfl⟩:=bO hz
      have hil:i<ps.length:=by rw[←hP.len];exact(List.getElem?_eq_some_iff.mp hTp).1
      have hx:ps[i]?=some ps[i]:=List.getElem?_eq_getElem hil
      generalize ps[i]=p at hx
      have hpm:=List.mem_of_getElem? hx
      obtain⟨va,ba,e1,e2,e3⟩:=hP4.at_ i Tp p hTp hx
      have A5:=A4.same hH5
      refine⟨Tp,_,rfl,SqT.of (hH5 _ _ e1),rfl,_,_,rfl,_,_,rfl,rfl,rfl,jH ?_⟩
      refine⟨_,rfl,l,_,_,_,_,rfl,A5.lat.lang,T.aR,T.bM,iu,_,rfl,S.za,va,s0.dims,p.1,rfl,SqL.of (A5.lat.sub _ _ A5.lat.sizes),SqL.of (hH5 _ _ e2),hcell p hpm,Jh hdm,fun H6 hH6=>?_⟩
      refine⟨_,rfl,.ref ba,some p.2,rfl,⟨ba,rfl,hH6 _ _ (hH5 _ _ e3)⟩,fun z e=>by cases e;exact Nat.le_trans (hpl p hpm) (by decide),fun H7 ra hH7 N5 aar=>?_⟩
      refine⟨(by show 2≤sizeLine;decide),fun Ta hTa=>?_⟩
      have s57:=hH6.trans hH7
      have sT:=Same.new (o:=HO.tup [.int (Fs.num s0.dims p.1:Nat),.ref ra]) hTa
      have s58:=s57.trans sT
      have nra:ra≠aq:=Ne.symm (aG (hH6 _ _ hq5) N5)
      have nTa:Ta≠aq:=Ne.symm (aG (s57 _ _ hq5) hTa)
      refine⟨_,s58 _ _ hq5,by rw[List.length_map,hl5];exact small (by omega),tas++[Ta],fun b o e=>?_,?_,by rw[List.length_append,hl5];rfl,fun j Tb q hTb hq=>?_⟩
      ·rw[aJ (aG e hD2)];exact s58 _ _ (hH5 b o e)
      ·rw[aA,List.map_append];rfl
      ·by_cases qj:j<tas.length
       ·rw[List.getElem?_append_left qj] at hTb
        obtain⟨ra',f1,f2,f3⟩:=hT5 j Tb q hTb hq
        exact⟨ra',by rw[aJ (d8 f1 hq5 (fun z=>nomatch z))];exact s58 _ _ f1,by rw[aJ f3];exact s58 _ _ f2,f3⟩
       ·rw[List.getElem?_append_right (by omega)] at hTb
        have hj:j - tas.length=0:=by
         have:=(List.getElem?_eq_some_iff.mp hTb).1
         simp at this
         omega
        rw[hj] at hTb
        have e:Ta=Tb:=by simpa using hTb
        subst e
        have ej:j=i:=by omega
        subst ej
        rw[hx] at hq
        cases hq
        exact⟨ra,by rw[aJ nTa,aA],by rw[aJ nra];exact sT _ _ aar,nra⟩
     ·rintro H5 ⟨tas,hH5,hq5,hl5,hT5⟩
      rw[List.length_map,hP.len] at hl5
      refine⟨Nat.zero_le _,fun gq hgq=>?_⟩
      have s05:=hH4.trans hH5
      have k05:=k03.trans (aL.same s05)
      have A5:=A3.same s05
      have hR5:=hR3.same s05
      have sg:=Same.new (o:=HO.lst []) hgq
      refine⟨_,rfl,l,s0,t,S,rfl,A5.same sg,fun H6 fq fs k6 T6 hf0 hf6 hFs=>?_⟩
      have kt6:=KT.of k6 (A5.same sg).tab
      have A6:=(A5.same sg).keep k6 T6
      have hg6:H6 gq=some (.lst []):=kt6.lst aA
      have kt56:KT H5 H6:=(KT.same sg).trans kt6
      have nfq:fq≠gq:=Ne.symm (aG (show upd H5 gq (.lst []) gq=some (.lst []) from aA) hf0)
      refine⟨fq,_,rfl,SqL.of hf6,ux (K:=K) (a:=fq) (xs:=fs.map V.ref) (fun i σ H'=>∃(v4 v5 v8 v9 v10 v11:Option V),σ=[some (.ref l),some (.ref r),some (.ref sa),some (.ref pq),v4,v5,some (.ref aq),some (.ref gq),v8,v9,v10,v11]∧aL [gq] H6 H'∧H' gq=some (.lst (nv (qD s0 ts ps i)))) ?_ ?_ ?_ ?_⟩
      ·exact⟨_,_,_,_,_,_,rfl,aL.same (Same.refl _),hg6⟩
      ·rintro i σ H' ⟨_,_,_,_,_,_,_,kp,_⟩
       exact SqL.of (kp _ _ hf6 (by simpa using nfq))
      ·rintro i x Tq σ H7 hx hTq ⟨v4,v5,v8,v9,v10,v11,rfl,kp,hg7⟩
       obtain⟨fo,hfo,rfl⟩:=bO hx
       have hil:i<s0.classes.length:=by rw[←hFs.len];exact(List.getElem?_eq_some_iff.mp hfo).1
       obtain⟨rows,hF,hfo0,hro0⟩:=hFs.at_ i fo hfo
       have ml:=Jj s0 ts ps i
       have hup:=QZ s0 ts ps i
       have n5: ∀{c:Addr} {o:HO},H5 c=some o→c∉[gq]:=fun{c o} e=>by simpa using aG e hgq
       have nn: ∀{c:Addr},upd H5 gq (.lst []) c=none→c∉[gq]:=fun{c} e m=>by rw[List.mem_singleton.mp m,aA] at e;cases e
       have kt57:KT H5 H7:=fun b o e nt=>kp b o (kt56 b o e nt) (n5 e)
       have L7:LAt aj aD aH H7 l s0 t S:=A6.lat.keep kp fun b hb=>by
        rw[List.mem_singleton.mp hb];exact A5.lat.out hgq
       have hF7:=hF.keep kp (nn hfo0) fun b hb=>nn (hro0 b hb)
       have sq:=Same.new (o:=HO.tup [.int (i:Nat),.ref fo]) hTq
       refine⟨Tq,_,rfl,SqT.of aA,rfl,_,_,rfl,_,_,rfl,rfl,?_⟩
       refine⟨_,rfl,_,rfl,fun x dx hx hdx ndx=>⟨x,dx,sa,_,rfl,aA,fun H9 d e1 e2 e3 k9=>⟨rfl,?_⟩⟩⟩
       have sm:=jB (C:=aH) hx hdx ndx
       have s79:Same H7 H9:=sq.trans fun b o e=>k9 b o (sm b o e) (by simpa using aG e hx)
       have Yz:KT H5 H9:=kt57.trans (KT.same s79)
       have kt29:KT H2 H9:=(KT.same (hH3.trans s05)).trans Yz
       have hWd:Lb aH H9 s0.dims x ⟨i,ts,[]⟩:=⟨dx,sa,d,as,[],e1,kt29.lst hs2,kt29.lists hA2,e2,fun c hc=>True.intro⟩
       have AK:Ht aj aD aH H9 l fo x s0 t S rows ⟨i,ts,[]⟩:=⟨L7.same s79,A5.wf,A5.dims,hF7.same s79,hWd,hs,fun p hp=>by cases hp⟩
       have hq9:=Yz.lst hq5
       refine⟨_,rfl,aq,rfl,⟨_,SqL.of hq9⟩,fun D3 hD3=>?_⟩
       refine yp (K:=K) (a:=aq) (xs:=tas.map V.ref) (fun j H'=>Same H9 H'∧H' D3=some (.lst (((ps.take j).map fun x=>s0.got ⟨i,ts,[]⟩ x.1== .form x.2).map V.bl))) ⟨Same.new hD3,aA⟩ (fun j H' _ p=>SqL.of (p.1 _ _ hq9)) ?_ ?_
       ·rintro j z H10 hz ⟨Uy,Td⟩
        obtain⟨Ta,hTa,rfl⟩:=bO hz
        have hjl:j<ps.length:=by rw[←hl5];exact(List.getElem?_eq_some_iff.mp hTa).1
        have hxj:ps[j]?=some ps[j]:=List.getElem?_eq_getElem hjl
        generalize ps[j]=p at hxj
        obtain⟨ra,f1,f2,_⟩:=hT5 j Ta p hTa hxj
        have f1':=Uy _ _ (Yz _ _ f1 fun ps q=>(nomatch q))
        have f2':=Uy _ _ (Yz.lst f2)
        refine⟨Ta,_,rfl,SqT.of f1',rfl,_,_,rfl,_,_,rfl,rfl,rfl,jH ?_⟩
        refine⟨_,rfl,_,rfl,_,rfl,_,rfl,l,fo,x,s0,t,S,rows,⟨i,ts,[]⟩,p.1,rfl,AK.same Uy,hcell p (List.mem_of_getElem? hxj),fun H11 q aat hq0 hq=>?_⟩
        refine⟨_,rfl,.list ((bZ (s0.got ⟨i,ts,[]⟩ p.1)).map PyData.int),.list ((bZ (.form p.2)).map PyData.int),uw (SqL.of hq),uw (SqL.of (aat _ _ f2')),shaped_ints _,shaped_ints _,?_⟩
        have ee:PyData.eqv (.list ((bZ (s0.got ⟨i,ts,[]⟩ p.1)).map PyData.int)) (.list ((bZ (.form p.2)).map PyData.int))=(s0.got ⟨i,ts,[]⟩ p.1== .form p.2):=by
         refine(ur _ _).trans ?_
         rw[Bool.eq_iff_iff,decide_eq_true_eq,beq_iff_eq]
         exact⟨sO,fun e=>by rw[e]⟩
        rw[ee]
        refine⟨_,aat _ _ Td,by rw[List.length_map,List.length_map,List.length_take];exact small (by omega),fun b o e=>?_,?_⟩
        ·rw[aJ (aG e hD3)];exact aat _ _ (Uy b o e)
        ·rw[aA,cI hxj,List.map_append,List.map_append];rfl
       ·rintro H10 ⟨Uy,Td⟩
        rw[List.length_map,hl5,List.take_length] at Td
        refine⟨D3,_,rfl,SqL.of Td,_,rfl,?_⟩
        rw[all_map]
        have s710:=s79.trans Uy
        have aau:=s710 _ _ hg7
        have kp10:=kp.trans (aL.same s710)
        cases hm:(ps.all fun x=>s0.got ⟨i,ts,[]⟩ x.1== .form x.2) with
        |false=>
         rw[hm,if_neg (by decide)] at hup
         exact cA ⟨_,_,_,_,_,_,rfl,kp10,by rw[hup];exact aau⟩
        |true=>
         rw[hm,if_pos rfl] at hup
         refine cB ⟨_,rfl,.inl ⟨rfl,_,SqL.of aau⟩,_,rfl,gq,_,_,rfl,rfl,aau,(by rw[bY];exact small (by omega)),?_⟩
         refine⟨_,_,_,_,_,_,rfl,kp10.trans (aL.upd (by simp)),?_⟩
         rw[aA,hup]
         exact congrArg (fun z=>some (HO.lst z)) (kW _ [i])
      ·rintro σ H7 ⟨v4,v5,v8,v9,v10,v11,rfl,kp,hg7⟩
       rw[List.length_map,hFs.len] at hg7
       have ml:=Jj s0 ts ps s0.classes.length
       refine⟨_,rfl,gq,_,rfl,.inl (SqL.of hg7),(by show 1≤sizeLine;decide),fun p hp=>?_⟩
       have sp:=Same.new (o:=HO.lst [V.int ((nv (qD s0 ts ps s0.classes.length)).length:Nat)]) hp
       refine⟨_,rfl,p,gq,_,_,rfl,rfl,aA,sp _ _ hg7,?_,fun q hq=>?_⟩
       ·rw[bY]
        show 1+_≤sizeLine
        exact gO (by omega)
       ·have s7:=sp.trans (Same.new (o:=HO.lst ([V.int ((nv (qD s0 ts ps s0.classes.length)).length:Nat)]++nv (qD s0 ts ps s0.classes.length))) hq)
        have kf:aL [pt] H5 (upd (upd H7 p (HO.lst [V.int ((nv (qD s0 ts ps s0.classes.length)).length:Nat)])) q (HO.lst ([V.int ((nv (qD s0 ts ps s0.classes.length)).length:Nat)]++nv (qD s0 ts ps s0.classes.length)))):=fun b o e nb=>s7 _ _ (kp _ _ (k6 _ _ (sg _ _ e) nb) (by simpa using aG e hgq))
        have T7:dM H7 pt:=dM.keep T6 kp fun b hb u e=>by
         rw[List.mem_singleton.mp hb,hg6] at e
         cases e
         exact⟨fun ps q=>(nomatch q),fun φ q=>(nomatch q)⟩
        have T8:=TabOk.same T7 s7
        have hq5':H5 q=none:=by
         have nq:q≠gq:=Ne.symm (aG (sp _ _ hg7) hq)
         have h7:=sp.free hq
         have h6:H6 q=none:=rW kp h7 nq
         have:=ji k6 T6 h6
         rw[aJ nq] at this
         exact this
        refine D.fin I st k05 hR5.ne kf T8 hq5' ?_
        rw[aA,bY]
        rfl
end
theorem Q0(a b:Nat):Builtin.bitAnd (a:Int) (b:Int)=((a&&& b:Nat):Int):=by
 unfold Builtin.bitAnd
 rw[decide_eq_true (show(0:Int)≤a by omega),decide_eq_true (show(0:Int)≤b by omega)]
 rfl
theorem O1(a b:Nat):Em (a:Int) (b:Int)=bh (List.range' a (b - a)):=by
 unfold Em bh
 rw[show((b:Int) - (a:Int)).toNat=b - a by omega,List.range_eq_range']
 refine List.ext_getElem? fun i=>?_
 rw[List.getElem?_map,List.getElem?_map]
 by_cases q:i<b - a
 ·rw[List.getElem?_range' q,List.getElem?_range' q]
  show some ((a:Int)+((0+1 * i:Nat):Int))=some (((a+1 * i:Nat)):Int)
  congr 1
  omega
 ·rw[List.getElem?_eq_none (by rw[List.length_range'];omega),List.getElem?_eq_none (by rw[List.length_range'];omega)]
  rfl
def sU(H:Hp)(a:Addr)(gs:List Sx03.Got):Prop:=∃as,H a=some (.lst (as.map V.ref))∧bD H as (gs.map bZ)
theorem sU.kt{H H':Hp}{a:Addr}{gs:List Sx03.Got}(h:sU H a gs)(k:KT H H'):sU H' a gs:=by
 obtain⟨as,h1,h2⟩:=h
 exact⟨as,k.lst h1,k.lists h2⟩
theorem sU.get{H:Hp}{as:List Addr}{gs:List Sx03.Got}(h:bD H as (gs.map bZ)){j:Nat}{g:Sx03.Got}(e:gs[j]?=some g): ∃a,(as.map V.ref)[j]?=some (.ref a)∧H a=some (.lst (iv (bZ g))):=by
 have e2:(gs.map bZ)[j]?=some (bZ g):=by rw[List.getElem?_map,e];rfl
 have hj:j<as.length:=by rw[h.1];exact(List.getElem?_eq_some_iff.mp e2).1
 exact⟨as[j],by rw[List.getElem?_map,List.getElem?_eq_getElem hj];rfl,h.2 j _ _ (List.getElem?_eq_getElem hj) e2⟩
structure TabsAt(H:Hp)(tas:List Addr)(ts:List (List Sx03.Got)):Prop where
 len:tas.length=ts.length
 at_: ∀(j:Nat) a gs,tas[j]?=some a→ts[j]?=some gs→sU H a gs
section
variable{P:Program}{w:World}{K:PySem.W.Frag}{mg:Str→Option Value}{base:Heap}{au aD aj aH aK:Addr}{f:Addr}{fd:FuncData}
def Q5:Sp:=fun vs H Q _=>∃(a b:Addr) (ga gb:List Sx03.Got),vs=[.ref a,.ref b]∧sU H a ga∧sU H b gb∧ga.length=gb.length∧ga.length≤64∧∀H',Same H H'→Q (.int (Fs.bitsOf (Fs.dY ga gb ga.length):Nat)) H'
theorem xO(F:Fun K "find_difference" "find_difference" jL f fd)(T:Txt K mg aD aK aH au aj):bJ P w K mg base CX0 1 f fd ["table","other"] (Q5):=by
 refine F.ok gB (fun vs H Q E h=>?_) (fun cdv A outer s H vs Q E hr h=>?_)
 ·obtain⟨a,b,ga,gb,rfl,_⟩:=h
  rfl
 ·obtain⟨a,b,ga,gb,rfl,⟨as,ha,hA⟩,⟨bs,hb,hB⟩,hlen,h64,k⟩:=h
  refine⟨_,(aB (aX (i:=2) gB.nd rfl (by first|exact Or.inl rfl|exact Or.inr rfl) bB)
   (aB (dU PassesOwn.never rfl (gH (by rfl) T.iI (ak (bA aV (by rfl) T.cV PySem.boot_len (ak (pv 0) aC)) aC)) (bF (i:=3) gB.nd rfl (by first|exact Or.inl rfl|exact Or.inr rfl))
   (aF (bI (aY (ZL hr.units) (cJ bK (pv 0) (pv 3) (fun _ _=>rfl)) (cJ bK (pv 1) (pv 3) (fun _ _=>rfl)) (bx _)) (aF (zH (i:=2) gB.nd rfl (by first|exact Or.inl rfl|exact Or.inr rfl) (dF Vj bB (pv 3)) Vg)) aZ)))
   (aF (aP (pv 2))))),?_⟩
  have hal:(as.map V.ref).length=ga.length:=by rw[List.length_map,hA.1,List.length_map]
  refine⟨_,rfl,a,_,rfl,.inl (SqL.of ha),(((as.map V.ref).length:Nat):Int),rfl,by rw[hal];omega,by rw[hal];omega,vI (lo:=0) (n:=((((as.map V.ref).length:Nat):Int)).toNat) (fun i σ H'=>∃(v3:Option V),σ=[some (.ref a),some (.ref b),some (.int (Fs.bitsOf (Fs.dY ga gb i):Nat)),v3]∧H'=H) ?_ ?_ ?_⟩
  ·exact⟨_,rfl,rfl⟩
  ·rintro i σ H' hi ⟨v3,rfl,rfl⟩
   rw[hal] at hi
   have hi:i<ga.length:=by omega
   have e1:ga[i]?=some ga[i]:=List.getElem?_eq_getElem hi
   have e2:gb[i]?=some (gb[i]'(by omega)):=List.getElem?_eq_getElem _
   have hup:=Fs.Oh ga gb i
   rw[e1,e2] at hup
   generalize ga[i]=g1 at e1 hup
   generalize gb[i]'(by omega)=g2 at e2 hup
   obtain⟨ra,ra1,ra2⟩:=sU.get hA e1
   obtain⟨rb,rb1,rb2⟩:=sU.get hB e2
   refine⟨_,rfl,_,rfl,a,_,_,.ref ra,rfl,rfl,SqL.of ha,at_of (j:=i) (by rw[Int.zero_add]) ra1,_,rfl,_,rfl,b,_,_,.ref rb,rfl,rfl,SqL.of hb,at_of (j:=i) (by rw[Int.zero_add]) rb1,
    .list ((bZ g1).map PyData.int),.list ((bZ g2).map PyData.int),uw (SqL.of ra2),uw (SqL.of rb2),shaped_ints _,shaped_ints _,_,rfl,?_⟩
   have ee:PyData.eqv (.list ((bZ g1).map PyData.int)) (.list ((bZ g2).map PyData.int))=decide (bZ g1=bZ g2):=ur _ _
   rw[ee]
   by_cases q:g1=g2
   ·rw[decide_eq_true (by rw[q])]
    rw[if_pos (by rw[q])] at hup
    refine cA ⟨some (.int (0+(i:Int))),?_,rfl⟩
    rw[hup]
    rfl
   ·rw[decide_eq_false (fun e=>q (sO e))]
    rw[if_neg (fun e=>q (Option.some.inj e))] at hup
    refine cB ?_
    refine⟨_,rfl,_,rfl,_,_,rfl,rfl,⟨by omega,by omega,by decide⟩,_,_,rfl,rfl,some (.int (0+(i:Int))),?_,rfl⟩
    rw[hup,Fs.Ae]
    show[some (V.ref a),some (V.ref b),some (V.int ((Fs.bitsOf (Fs.dY ga gb i):Int)+1 * 2 ^ ((0:Int)+(i:Int)).toNat)),some (V.int (0+(i:Int)))]=_
    rw[show((0:Int)+(i:Int)).toNat=i by omega,Int.one_mul]
    rw[Int.natCast_add,Int.natCast_pow]
    rfl
  ·rintro σ H' ⟨v3,rfl,rfl⟩
   rw[hal,show((ga.length:Nat):Int).toNat=ga.length by omega]
   exact⟨_,rfl,k H' (Same.refl _)⟩
def Sw(ts:List (List Sx03.Got))(n:Nat)(ds:List Nat):Prop:=∀d,d∈ds↔d≠0∧∃(i j:Nat) (a b:List Sx03.Got),j<i∧ts[i]?=some a∧ts[j]?=some b∧d=Fs.bitsOf (Fs.dY a b n)
theorem O2{ts:List (List Sx03.Got)}{n:Nat}{ds:List Nat}(h:Sw ts n ds)(hl: ∀a∈ts,a.length=n)(p:List Nat):(ds.all fun d=>decide (d&&& Fs.bitsOf p≠0))=true↔Fs.apart ts n p:=by
 rw[List.all_eq_true]
 unfold Fs.apart
 constructor
 ·intro g i j a b hj hi hjj
  by_cases q:a=b
  ·exact .inl q
  ·refine .inr (of_decide_eq_true (g _ ((h _).mpr ⟨fun e=>q ?_,i,j,a,b,hj,hi,hjj,rfl⟩)))
   exact(Fs.Oi (hl a (List.mem_of_getElem? hi)) (hl b (List.mem_of_getElem? hjj))).mp ((Fs.Oj (Fs.vN a b n)).mp e)
 ·intro g d hd
  obtain⟨h0,i,j,a,b,hj,hi,hjj,rfl⟩:=(h d).mp hd
  rcases g i j a b hj hi hjj with e|e
  ·exfalso
   apply h0
   exact(Fs.Oj (Fs.vN a b n)).mpr ((Fs.Oi (hl a (List.mem_of_getElem? hi)) (hl b (List.mem_of_getElem? hjj))).mpr e)
  ·exact decide_eq_true e
def Ln:Sp:=fun vs H Q _=>∃(q:Addr) (tas:List Addr) (ts:List (List Sx03.Got)) (n:Nat),vs=[.ref q]∧H q=some (.lst (tas.map V.ref))∧TabsAt H tas ts∧(∀a∈ts,a.length=n)∧n≤64∧ts.length≤16∧
 ∀H' d ds,Same H H'→H d=none→H' d=some (.lst (nv ds))→Sw ts n ds→Q (.ref d) H'
theorem vW(F:Fun K "list_differences" "list_differences" jj f fd)(T:Txt K mg aD aK aH au aj)(jX:GF P w K mg base "find_difference" 1 ["table","other"] (Q5)):bJ P w K mg base CX0 2 f fd ["tables"] (Ln):=by
 refine F.ok cZ (fun vs H Q E h=>?_) (fun cdv A outer s H vs Q E hr h=>?_)
 ·obtain⟨q,tas,ts,n,rfl,_⟩:=h
  rfl
 ·obtain⟨tq,tas,ts,n,rfl,htq,hT,hl,hn,h16,k⟩:=h
  refine⟨_,(aB (aX (i:=1) cZ.nd rfl (by first|exact Or.inl rfl|exact Or.inr rfl) (bG aC))
   (aB (dU PassesOwn.never rfl (vL (by rfl) T.jA (ak (pv 0) aC)) (qN rfl (dz (bF (i:=2) cZ.nd rfl (by first|exact Or.inl rfl|exact Or.inr rfl)) (dz (bF (i:=3) cZ.nd rfl (by first|exact Or.inl rfl|exact Or.inr rfl)) mC)))
   (aF (dU PassesOwn.never rfl (eV (iZ kZ (pv 0) mF (jE (pv 2)))) (bF (i:=4) cZ.nd rfl (by first|exact Or.inl rfl|exact Or.inr rfl))
   (aB (aX (i:=5) cZ.nd rfl (by first|exact Or.inl rfl|exact Or.inr rfl) (aQ jX (hr.mono (by decide)) (ak (pv 3) (ak (pv 4) aC))))
   (aF (bI (wK (aY Dq (pv 5) bB (bx _)) (qL (aY qO (pv 5) (pv 1) rfl))).pt (aF (dj (jw PySem.F.plainAttrs_list PySem.F.slot_list_append PySem.F.type_list_append fQ (pv 1) (ak (pv 5) aC)))) aZ))))))
   (aF (aP (pv 1))))),?_⟩
  refine⟨Nat.zero_le _,fun dq hdq=>?_⟩
  have sd:=Same.new (o:=HO.lst []) hdq
  refine⟨_,rfl,tq,_,rfl,SqL.of (sd _ _ htq),ux (K:=K) (a:=tq) (xs:=tas.map V.ref) (fun i σ H'=>∃(v2 v3 v4 v5:Option V) (ds:List Nat),σ=[some (.ref tq),some (.ref dq),v2,v3,v4,v5]∧Same H H'∧H' dq=some (.lst (nv ds))∧ds.length≤16 * i∧
   ∀d,d∈ds↔d≠0∧∃(i' j:Nat) (a b:List Sx03.Got),i'<i∧j<i'∧ts[i']?=some a∧ts[j]?=some b∧d=Fs.bitsOf (Fs.dY a b n)) ?_ ?_ ?_ ?_⟩
  ·refine⟨_,_,_,_,[],rfl,sd,aA,Nat.zero_le _,fun d=>⟨fun m=>(nomatch m),?_⟩⟩
   rintro⟨_,i',j,a,b,h,_⟩
   exact absurd h (Nat.not_lt_zero _)
  ·rintro i σ H' ⟨_,_,_,_,_,_,hH',_⟩
   exact SqL.of (hH' _ _ htq)
  ·rintro i x Tp σ H2 hx hTp ⟨v2,v3,v4,v5,ds,rfl,hH2,hd2,hdl,hds⟩
   obtain⟨ta,hta,rfl⟩:=bO hx
   have hil:i<ts.length:=by rw[←hT.len];exact(List.getElem?_eq_some_iff.mp hta).1
   have hti:ts[i]?=some ts[i]:=List.getElem?_eq_getElem hil
   generalize ts[i]=ga at hti
   have hga:=hl ga (List.mem_of_getElem? hti)
   have sT:=Same.new (o:=HO.tup [.int (i:Nat),.ref ta]) hTp
   have s02:=hH2.trans sT
   refine⟨Tp,_,rfl,SqT.of aA,rfl,_,_,rfl,_,_,rfl,rfl,?_⟩
   refine⟨_,rfl,_,rfl,_,rfl,tq,_,rfl,SqL.of (s02 _ _ htq),fun p hp=>?_⟩
   have ec:jY (tas.map V.ref) none (some (i:Int))=(tas.take i).map V.ref:=by
    rw[FZ (by rw[List.length_map,hT.len];omega),List.map_take]
   rw[ec]
   have sp:=Same.new (o:=HO.lst ((tas.take i).map V.ref)) hp
   have s23:=sT.trans sp
   have s03:=s02.trans sp
   have hdp:=s23 _ _ hd2
   have hpp:upd (upd H2 Tp (HO.tup [.int (i:Nat),.ref ta])) p (HO.lst ((tas.take i).map V.ref)) p=some (HO.lst ((tas.take i).map V.ref)):=aA
   generalize upd (upd H2 Tp (HO.tup [.int (i:Nat),.ref ta])) p (HO.lst ((tas.take i).map V.ref))=H3 at s23 s03 hdp hpp
   have npd:p≠dq:=by
    have:(upd H2 Tp (HO.tup [.int (i:Nat),.ref ta])) dq=some (.lst (nv ds)):=sT _ _ hd2
    exact Ne.symm (aG this hp)
   refine⟨p,rfl,⟨_,SqL.of hpp⟩,gY (K:=K) (a:=p) (xs:=(tas.take i).map V.ref) (fun j σ H'=>∃(v4 v5:Option V) (es:List Nat),σ=[some (.ref tq),some (.ref dq),some (.int (i:Nat)),some (.ref ta),v4,v5]∧aL [dq] H3 H'∧H' dq=some (.lst (nv es))∧es.length≤16 * i+j∧
    ∀d,d∈es↔d≠0∧((∃(i' j:Nat) (a b:List Sx03.Got),i'<i∧j<i'∧ts[i']?=some a∧ts[j]?=some b∧d=Fs.bitsOf (Fs.dY a b n))∨∃(j':Nat) (b:List Sx03.Got),j'<j∧ts[j']?=some b∧d=Fs.bitsOf (Fs.dY ga b n))) ?_ ?_ ?_ ?_⟩
   ·refine⟨_,_,ds,rfl,aL.same (Same.refl _),hdp,by omega,fun d=>?_⟩
    rw[hds]
    constructor
    ·rintro⟨h1,h2⟩;exact⟨h1,.inl h2⟩
    ·rintro⟨h1,h2|⟨j',b,h,_⟩⟩
     ·exact⟨h1,h2⟩
     ·exact absurd h (Nat.not_lt_zero _)
   ·rintro j σ H' _ ⟨_,_,_,_,kp,_⟩
    exact SqL.of (kp _ _ hpp (by simpa using npd))
   ·rintro j z σ H4 hz ⟨v4,v5,es,rfl,kp,hd4,hel,hes⟩
    obtain⟨tb,htb,rfl⟩:=bO hz
    have hji:j<i:=by
     have:=(List.getElem?_eq_some_iff.mp htb).1
     rw[List.length_take] at this
     omega
    rw[List.getElem?_take_of_lt hji] at htb
    have htj:ts[j]?=some (ts[j]'(by omega)):=List.getElem?_eq_getElem _
    generalize ts[j]'(by omega)=gb at htj
    have hgb:=hl gb (List.mem_of_getElem? htj)
    have s04:Same H H4:=fun b o e=>kp b o (s03 b o e) (by simpa using aG e hdq)
    have hTA:=(hT.at_ i ta ga hta hti).kt (KT.same s04)
    have hTB:=(hT.at_ j tb gb htb htj).kt (KT.same s04)
    refine⟨_,rfl,_,rfl,ta,tb,ga,gb,rfl,hTA,hTB,by omega,by omega,fun H5 hH5=>?_⟩
    rw[hga]
    have hd5:=hH5 _ _ hd4
    have kp5:=kp.trans (aL.same hH5)
    have next: ∀(es':List Nat),(∀d,d∈es'↔d∈es∨(d≠0∧d=Fs.bitsOf (Fs.dY ga gb n)))→∀d,d∈es'↔d≠0∧((∃(i' j:Nat) (a b:List Sx03.Got),i'<i∧j<i'∧ts[i']?=some a∧ts[j]?=some b∧d=Fs.bitsOf (Fs.dY a b n))∨∃(j':Nat) (b:List Sx03.Got),j'<j+1∧ts[j']?=some b∧d=Fs.bitsOf (Fs.dY ga b n)):=by
     intro es' he d
     rw[he,hes]
     constructor
     ·rintro(⟨h1,h2|⟨j',b,h3,h4⟩⟩|⟨h1,h2⟩)
      ·exact⟨h1,.inl h2⟩
      ·exact⟨h1,.inr ⟨j',b,by omega,h4⟩⟩
      ·exact⟨h1,.inr ⟨j,gb,by omega,htj,h2⟩⟩
     ·rintro⟨h1,h2|⟨j',b,h3,h4,h5⟩⟩
      ·exact .inl ⟨h1,.inl h2⟩
      ·by_cases q:j'=j
       ·subst q
        rw[htj] at h4
        cases h4
        exact .inr ⟨h1,h5⟩
       ·exact .inl ⟨h1,.inr ⟨j',b,by omega,h4,h5⟩⟩
    generalize hbe:Fs.bitsOf (Fs.dY ga gb n)=bb at next
    have aaj:(if true=true then !inV (.int (bb:Int)) (nv es) else inV (.int (bb:Int)) (nv es))= !decide (bb∈es):=by
     rw[if_pos rfl,Ke]
     congr 1
     refine decide_eq_decide.mpr ?_
     rw[List.mem_map]
     constructor
     ·rintro⟨m,hm,e⟩
      have e:(m:Int)=(bb:Int):=e
      rw[show bb=m by omega]
      exact hm
     ·exact fun h=>⟨_,h,rfl⟩
    refine⟨_,rfl,rfl,_,rfl,?_⟩
    by_cases q0:bb=0
    ·refine itN (fun e=>?_) (cA ?_)
     ·rw[q0] at e
      exact absurd e (by decide)
     ·refine⟨_,_,es,rfl,kp5,hd5,by omega,next es fun d=>⟨.inl,?_⟩⟩
      rintro(h|⟨h1,h2⟩)
      ·exact h
      ·exact absurd (h2.trans q0) h1
    ·refine itP ?_ ?_
     ·rw[decide_eq_false (fun e=>by injection e with e;have e:(bb:Int)=0:=e;omega)]
      rfl
     refine⟨_,rfl,_,rfl,dq,_,rfl,.inl (SqL.of hd5),rfl,yJ _,_,rfl,?_⟩
     rw[aaj]
     by_cases qm:bb∈es
     ·rw[decide_eq_true qm]
      refine cA ⟨_,_,es,rfl,kp5,hd5,by omega,next es fun d=>⟨.inl,?_⟩⟩
      rintro(h|⟨h1,h2⟩)
      ·exact h
      ·rw[h2];exact qm
     ·rw[decide_eq_false qm]
      refine cB ⟨_,rfl,.inl ⟨rfl,_,SqL.of hd5⟩,_,rfl,dq,_,_,rfl,rfl,hd5,(by rw[bY];exact small (by omega)),?_⟩
      refine⟨_,_,es++[bb],rfl,kp5.trans (aL.upd (by simp)),?_,by rw[List.length_append];show es.length+1≤_;omega,next _ fun d=>?_⟩
      ·rw[aA]
       exact congrArg (fun z=>some (HO.lst z)) (kW _ [bb])
      ·rw[List.mem_append,List.mem_singleton]
       constructor
       ·rintro(h|h)
        ·exact .inl h
        ·exact .inr ⟨by rw[h];exact q0,h⟩
       ·rintro(h|⟨_,h⟩)
        ·exact .inl h
        ·exact .inr h
   ·rintro σ H4 ⟨v4,v5,es,rfl,kp,hd4,hel,hes⟩
    have hli:((tas.take i).map V.ref).length=i:=by rw[List.length_map,List.length_take,hT.len];omega
    rw[hli] at hel hes
    refine⟨_,_,_,_,es,rfl,fun b o e=>kp b o (s03 b o e) (by simpa using aG e hdq),hd4,by omega,fun d=>?_⟩
    rw[hes]
    constructor
    ·rintro⟨h1,⟨i',j,a,b,h2,h3⟩|⟨j',b,h2,h3,h4⟩⟩
     ·exact⟨h1,i',j,a,b,by omega,h3⟩
     ·exact⟨h1,i,j',ga,b,by omega,h2,hti,h3,h4⟩
    ·rintro⟨h1,i',j,a,b,h2,h3,h4,h5,h6⟩
     by_cases q:i'=i
     ·subst q
      rw[hti] at h4
      cases h4
      exact⟨h1,.inr ⟨j,b,h3,h5,h6⟩⟩
     ·exact⟨h1,.inl ⟨i',j,a,b,by omega,h3,h4,h5,h6⟩⟩
  ·rintro σ H2 ⟨v2,v3,v4,v5,ds,rfl,hH2,hd2,hdl,hds⟩
   refine⟨_,rfl,k H2 dq ds hH2 hdq hd2 fun d=>?_⟩
   rw[hds,List.length_map,hT.len]
   constructor
   ·rintro⟨h1,i',j,a,b,_,h3⟩
    exact⟨h1,i',j,a,b,h3⟩
   ·rintro⟨h1,i',j,a,b,h2,h3,h4⟩
    exact⟨h1,i',j,a,b,(List.getElem?_eq_some_iff.mp h3).1,h2,h3,h4⟩
def Lp:Sp:=fun vs H Q _=>∃(a b:Addr) (p ds:List Nat),vs=[.ref a,.ref b]∧H a=some (.lst (nv p))∧H b=some (.lst (nv ds))∧(∀x∈p,x≤1000)∧∀H',Same H H'→Q (.bl (ds.all fun d=>decide (d&&& Fs.bitsOf p≠0))) H'
theorem Gj(F:Fun K "tells_apart" "tells_apart" oY f fd)(T:Txt K mg aD aK aH au aj):bJ P w K mg base CX0 1 f fd ["choice","differences"] (Lp):=by
 refine F.ok g8 (fun vs H Q E h=>?_) (fun cdv A outer s H vs Q E hr h=>?_)
 ·obtain⟨a,b,p,ds,rfl,_⟩:=h
  rfl
 ·obtain⟨a,b,p,ds,rfl,ha,hb,hp,k⟩:=h
  refine⟨_,(aB (aX (i:=2) g8.nd rfl (by first|exact Or.inl rfl|exact Or.inr rfl) bB)
   (aB (dU PassesOwn.never rfl (eV (pv 0)) (bF (i:=3) g8.nd rfl (by first|exact Or.inl rfl|exact Or.inr rfl))
   (aF (zH (i:=2) g8.nd rfl (by first|exact Or.inl rfl|exact Or.inr rfl) (dF Vj bB (pv 3)) Vg)))
   (aB (dU PassesOwn.never rfl (eV (pv 1)) (bF (i:=4) g8.nd rfl (by first|exact Or.inl rfl|exact Or.inr rfl))
   (aF (bI (aY nU (dF Zu (pv 4) (pv 2)) bB (bx _)) (aF (aP jD)) aZ)))
   (aF (aP jD))))),?_⟩
  refine⟨_,rfl,a,rfl,⟨_,SqL.of ha⟩,gY (K:=K) (a:=a) (xs:=nv p) (fun i σ H'=>∃(v3 v4:Option V),σ=[some (.ref a),some (.ref b),some (.int (Fs.bitsOf (p.take i):Nat)),v3,v4]∧H'=H) ?_ ?_ ?_ ?_⟩
  ·exact⟨_,_,rfl,rfl⟩
  ·rintro i σ H' _ ⟨_,_,_,rfl⟩
   exact SqL.of ha
  ·rintro i z σ H' hz ⟨v3,v4,rfl,rfl⟩
   obtain⟨z',hz',rfl⟩:=bO hz
   obtain⟨c,hc,rfl⟩:=bO hz'
   have hcl:=hp c (List.mem_of_getElem? hc)
   refine⟨_,rfl,_,rfl,_,_,rfl,rfl,⟨by show(0:Int)≤(c:Int);omega,by show(c:Int)≤1000000;omega,by decide⟩,_,_,rfl,rfl,some (.int (c:Nat)),v4,?_,rfl⟩
   rw[cI hc,Fs.Ae]
   show[some (V.ref a),some (V.ref b),some (V.int ((Fs.bitsOf (p.take i):Int)+1 * 2 ^ ((c:Int)).toNat)),_,_]=_
   rw[show((c:Int)).toNat=c by omega,Int.one_mul,Int.natCast_add,Int.natCast_pow]
   rfl
  ·rintro σ H' ⟨v3,v4,rfl,rfl⟩
   rw[List.length_map,List.length_map,List.take_length]
   refine⟨_,rfl,b,rfl,⟨_,SqL.of hb⟩,gY (K:=K) (a:=b) (xs:=nv ds) (fun i σ H2=>∃(v3 v4:Option V),σ=[some (.ref a),some (.ref b),some (.int (Fs.bitsOf p:Nat)),v3,v4]∧H2=H'∧((ds.take i).all fun d=>decide (d&&& Fs.bitsOf p≠0))=true) ?_ ?_ ?_ ?_⟩
   ·exact⟨_,_,rfl,rfl,rfl⟩
   ·rintro i σ H2 _ ⟨_,_,_,rfl,_⟩
    exact SqL.of hb
   ·rintro i z σ H2 hz ⟨v3,v4,rfl,rfl,hall⟩
    obtain⟨z',hz',rfl⟩:=bO hz
    obtain⟨d,hd,rfl⟩:=bO hz'
    refine⟨_,rfl,_,rfl,_,_,rfl,rfl,rfl,_,rfl,?_⟩
    have e:Builtin.bitAnd (Int.ofNat d) ((Fs.bitsOf p:Nat):Int)=((d&&& Fs.bitsOf p:Nat):Int):=Q0 d (Fs.bitsOf p)
    show if decide (V.int (Builtin.bitAnd (Int.ofNat d) ((Fs.bitsOf p:Nat):Int))=V.int 0)=true then _ else _
    rw[e]
    by_cases q:d&&& Fs.bitsOf p=0
    ·refine itP (decide_eq_true (by rw[q];rfl)) ?_
     have ef:(ds.all fun d=>decide (d&&& Fs.bitsOf p≠0))=false:=by
      rw[List.all_eq_false]
      exact⟨d,List.mem_of_getElem? hd,by simp[q]⟩
     rw[ef] at k
     exact k H2 (Same.refl _)
    ·refine itN (fun z=>q ?_) ?_
     ·have z:=of_decide_eq_true z
      injection z with z
      omega
     ·refine⟨_,_,rfl,rfl,?_⟩
      rw[cI hd,List.all_append,hall]
      simp[q]
   ·rintro σ H2 ⟨v3,v4,rfl,rfl,hall⟩
    rw[List.length_map,List.length_map,List.take_length] at hall
    rw[hall] at k
    exact k H2 (Same.refl _)
def Q6:Sp:=fun vs H Q _=>∃(a:Addr) (p:List Nat) (n:Nat),vs=[.ref a,.int (n:Nat)]∧H a=some (.lst (nv p))∧Fs.Pick n p∧n≤64∧(Fs.yQ n p 0→∀H',Same H H'→Q .non H')∧
 ∀i v,p[i]?=some v→v+p.length≠n+i→Fs.yQ n p (i+1)→∀H' q,Same H H'→H q=none→H' q=some (.lst (nv (Fs.iw p i v)))→Q (.ref q) H'
theorem vX(F:Fun K "find_next_choice" "find_next_choice" jk f fd)(T:Txt K mg aD aK aH au aj):bJ P w K mg base CX0 1 f fd ["choice","cells"] (Q6):=by
 refine F.ok dg (fun vs H Q E h=>?_) (fun cdv A outer s H vs Q E hr h=>?_)
 ·obtain⟨a,p,n,rfl,_⟩:=h
  rfl
 ·obtain⟨a,p,n,rfl,ha,hp,hn,k1,k2⟩:=h
  have hpl:=Fs.Oe hp
  refine⟨_,(aB (aX (i:=2) dg.nd rfl (by first|exact Or.inl rfl|exact Or.inr rfl) (dF lK (bA aV (by rfl) T.cV PySem.boot_len (ak (pv 0) aC)) bB))
   (aB (aX (i:=3) dg.nd rfl (by first|exact Or.inl rfl|exact Or.inr rfl) (dF lK (pv 1) bB))
   (aB (pY PassesOwn.never (wK (aY Mr (pv 2) bB (bx _)) (qL (aY nU (cJ bK (pv 0) (pv 2) (fun _ _=>rfl)) (pv 3) (bx _)))).pt
   (aB (zH (i:=2) dg.nd rfl (by first|exact Or.inl rfl|exact Or.inr rfl) bB Px)
   (aF (zH (i:=3) dg.nd rfl (by first|exact Or.inl rfl|exact Or.inr rfl) bB Px))))
   (aB (bI (aY mW (pv 2) bB (bx _)) (aF (aP dW)) aZ)
   (aB (aX (i:=4) dg.nd rfl (by first|exact Or.inl rfl|exact Or.inr rfl) (dF Jv (cJ bK (pv 0) (pv 2) (fun _ _=>rfl)) bB))
   (aF (aP (dF jF (iZ kZ (pv 0) mF (jE (pv 2))) (vJ (oR rfl) (by rfl) T.Qv Ql (ak (Ud (by rfl) T.iI (ak (pv 4) (ak (dF lK (dF Jv (pv 4) (bA aV (by rfl) T.cV PySem.boot_len (ak (pv 0) aC))) (pv 2)) aC))) aC)))))))))),?_⟩
  refine⟨_,rfl,a,_,rfl,.inl (SqL.of ha),_,_,rfl,rfl,_,rfl,_,_,rfl,rfl,?_⟩
  refine⟨fun m σ H'=>∃(v4:Option V),σ=[some (.ref a),some (.int (n:Nat)),some (.int ((m:Int) - 1)),some (.int ((n:Int) - 1 - ((p.length:Int) - m))),v4]∧H'=H∧m≤p.length∧Fs.yQ n p m,⟨p.length,none,?_,rfl,Nat.le_refl _,fun j b hj hb=>?_⟩,?_⟩
  ·show[some (V.ref a),some (V.int (n:Nat)),some (V.int (((nv p).length:Int) - 1)),some (V.int ((n:Int) - 1)),none]=_
   rw[bY,show(n:Int) - 1 - ((p.length:Int) - (p.length:Int))=(n:Int) - 1 by omega]
  ·have:=(List.getElem?_eq_some_iff.mp hb).1
   omega
  rintro m σ H' ⟨v4,rfl,rfl,hm,htop⟩
  cases m with
  |zero=>
   refine⟨_,rfl,_,_,rfl,rfl,_,rfl,?_⟩
   refine cA (cA ?_)
   refine⟨_,rfl,_,_,rfl,rfl,_,rfl,cB ?_⟩
   exact k1 htop H' (Same.refl _)
  |succ i=>
   have hi:i<p.length:=hm
   have e0:((i+1:Nat):Int) - 1=(i:Int):=by omega
   rw[e0]
   have hpi:p[i]?=some p[i]:=List.getElem?_eq_getElem hi
   generalize p[i]=v at hpi
   have hz1:(nv p)[i]?=some (.int (v:Nat)):=by rw[List.getElem?_map,List.getElem?_map,hpi];rfl
   have htp:=Fs.vm hp hpi
   refine⟨_,rfl,_,_,rfl,rfl,_,rfl,?_⟩
   refine itP (by rw[decide_eq_true_eq];omega) ?_
   refine⟨_,rfl,_,rfl,a,_,_,.int (v:Nat),rfl,rfl,SqL.of ha,at_of (j:=i) rfl hz1,_,rfl,rfl,_,rfl,?_⟩
   by_cases q:v+p.length=n+i
   ·refine itP (decide_eq_true (by congr 1;omega)) ?_
    refine⟨fun σ' H2=>∃(v4:Option V),σ'=[some (.ref a),some (.int (n:Nat)),some (.int ((i:Int) - 1)),some (.int ((n:Int) - 1 - ((p.length:Int) - i))),v4]∧H2=H',?_,?_⟩
    ·rintro σ' H2 ⟨v4,rfl,rfl⟩
     refine⟨i,by omega,v4,rfl,rfl,by omega,fun j b hj hb=>?_⟩
     by_cases qj:j=i
     ·subst qj
      rw[hpi] at hb
      cases hb
      exact q
     ·exact htop j b (by omega) hb
    ·refine⟨_,rfl,_,_,rfl,rfl,_,rfl,_,_,rfl,rfl,v4,?_,rfl⟩
     show[some (V.ref a),some (V.int (n:Nat)),some (V.int ((i:Int) - 1)),some (V.int ((n:Int) - 1 - ((p.length:Int) - ((i+1:Nat):Int)) - 1)),v4]=_
     rw[show(n:Int) - 1 - ((p.length:Int) - ((i+1:Nat):Int)) - 1=(n:Int) - 1 - ((p.length:Int) - (i:Int)) by omega]
   ·refine itN (fun e=>q (by have e:=of_decide_eq_true e;injection e with e;omega)) ?_
    refine⟨_,rfl,_,_,rfl,rfl,_,rfl,?_⟩
    refine itN (by rw[decide_eq_true_eq];omega) ?_
    refine⟨_,rfl,_,rfl,a,_,_,.int (v:Nat),rfl,rfl,SqL.of ha,at_of (j:=i) rfl hz1,_,_,rfl,rfl,?_⟩
    refine⟨_,rfl,_,rfl,_,rfl,a,_,rfl,SqL.of ha,fun p1 hp1=>?_⟩
    have ec:jY (nv p) none (some (i:Int))=nv (p.take i):=by rw[FZ (by rw[bY];omega),CW]
    rw[ec]
    have s1:=Same.new (o:=HO.lst (nv (p.take i))) hp1
    refine⟨_,rfl,_,rfl,_,rfl,a,_,rfl,.inl (SqL.of (s1 _ _ ha)),_,_,rfl,rfl,_,rfl,_,_,rfl,rfl,_,_,rfl,fun p2 hp2=>?_⟩
    have s2:=s1.trans (Same.new (o:=HO.rng ((v:Int)+1) ((v:Int)+1+((nv p).length:Int) - (i:Int))) hp2)
    refine⟨p2,_,_,rfl,aA,⟨by omega,by omega,by rw[bY];omega,by rw[bY];omega⟩,fun p3 hp3=>?_⟩
    have eL:Em ((v:Int)+1) ((v:Int)+1+((nv p).length:Int) - (i:Int))=bh (List.range' (v+1) (p.length - i)):=by
     rw[bY,show(v:Int)+1=((v+1:Nat):Int) by omega,show((v+1:Nat):Int)+(p.length:Int) - (i:Int)=((v+1+(p.length - i):Nat):Int) by omega,O1]
     congr 2
     omega
    have nq1:p1≠p2:=by
     have:(upd H' p1 (HO.lst (nv (p.take i)))) p1=some (HO.lst (nv (p.take i))):=aA
     exact aG this hp2
    have nq3:=bw hp3
    have nq13:p1≠p3:=fun e=>by
     have:=(nq3.2)
     rw[←e,aA] at this
     cases this
    have s3:=s2.trans (Same.new (o:=HO.lst ((Em ((v:Int)+1) ((v:Int)+1+((nv p).length:Int) - (i:Int))).map V.int)) hp3)
    refine⟨p1,p3,_,_,rfl,rfl,(by rw[aJ nq13,aJ nq1,aA]),aA,?_,fun q4 hq4=>?_⟩
    ·rw[eL,bY,List.length_take,List.length_map,bU,List.length_range']
     exact gO (by omega)
    ·refine k2 i v hpi q htop _ q4 (s3.trans (Same.new hq4)) (s3.free hq4) ?_
     rw[aA,eL]
     exact congrArg (fun z=>some (HO.lst z)) (kW _ _)
end
def valN(B:Nat):List Nat→Nat
 |[]=>0
 |a::p=>a * B ^ p.length+valN B p
theorem Gk{B:Nat}: ∀{p:List Nat},(∀x∈p,x<B)→valN B p<B ^ p.length
 |[],_=>by show 0<1;decide
 |a::p,h=>by
  have ih:=Gk fun x hx=>h x (List.mem_cons_of_mem _ hx)
  have ha:=h a List.mem_cons_self
  show a * B ^ p.length+valN B p<B ^ (p.length+1)
  have:(a+1) * B ^ p.length≤B * B ^ p.length:=Nat.mul_le_mul_right _ ha
  rw[Nat.pow_succ,Nat.mul_comm (B ^ p.length) B]
  rw[Nat.add_mul,Nat.one_mul] at this
  omega
theorem W8{B:Nat}: ∀{p q:List Nat},p.length=q.length→(∀x∈p,x<B)→Fs.lx p q→valN B p<valN B q
 |[],[],_,_,h=>h.elim
 |[],_::_,_,_,h=>h.elim
 |_::_,[],_,_,h=>h.elim
 |a::p,b::q,hl,hb,h=>by
  have hl2:p.length=q.length:=Nat.succ.inj hl
  show a * B ^ p.length+valN B p<b * B ^ q.length+valN B q
  rw[←hl2]
  have lt:=Gk fun x hx=>hb x (List.mem_cons_of_mem _ hx)
  rcases h with h|⟨rfl,h⟩
  ·have:(a+1) * B ^ p.length≤b * B ^ p.length:=Nat.mul_le_mul_right _ h
   rw[Nat.add_mul,Nat.one_mul] at this
   omega
  ·have:=W8 (B:=B) (p:=p) (q:=q) hl2 (fun x hx=>hb x (List.mem_cons_of_mem _ hx)) h
   omega
theorem Jk(i:Nat):Em 0 (i:Int)=bh (List.range i):=by
 refine(O1 0 i).trans ?_
 rw[Nat.sub_zero,List.range_eq_range']
section
variable{P:Program}{w:World}{K:PySem.W.Frag}{mg:Str→Option Value}{base:Heap}{au aD aj aH aK:Addr}{f:Addr}{fd:FuncData}
def vA:Sp:=fun vs H Q _=>∃(tq:Addr) (n:Nat) (tas:List Addr) (ts:List (List Sx03.Got)),vs=[.ref tq,.int (n:Nat)]∧H tq=some (.lst (tas.map V.ref))∧TabsAt H tas ts∧(∀a∈ts,a.length=n)∧n≤64∧ts.length≤16∧Sx03.tells ts (List.range n)=true∧
 ∀H' q r,Same H H'→H q=none→H' q=some (.lst (nv r))→Fs.Pick n r→Sx03.tells ts r=true→(∀q,Fs.Pick n q→q.length<r.length→Sx03.tells ts q=false)→(∀q,Fs.Pick n q→q.length=r.length→Fs.lx q r→Sx03.tells ts q=false)→Q (.ref q) H'
theorem Hz(F:Fun K "find_parts" "find_parts" qW f fd)(T:Txt K mg aD aK aH au aj)(jt:GF P w K mg base "list_differences" 2 ["tables"] (Ln))(pX:GF P w K mg base "tells_apart" 1 ["choice","differences"] (Lp))(ju:GF P w K mg base "find_next_choice" 1 ["choice","cells"] (Q6)):bJ P w K mg base CX0 3 f fd ["tables","cells"] (vA):=by
 refine F.ok je (fun vs H Q E h=>?_) (fun cdv A outer s H vs Q E hr h=>?_)
 ·obtain⟨tq,n,tas,ts,rfl,_⟩:=h
  rfl
 ·obtain⟨tq,n,tas,ts,rfl,htq,hT,hl,hn,h16,hall,k⟩:=h
  refine⟨_,(aB (aX (i:=2) je.nd rfl (by first|exact Or.inl rfl|exact Or.inr rfl) (aQ jt (hr.mono (by decide)) (ak (pv 0) aC)))
   (aB (dU PassesOwn.never rfl (gH (by rfl) T.iI (ak (pv 1) aC)) (bF (i:=3) je.nd rfl (by first|exact Or.inl rfl|exact Or.inr rfl))
   (aB (aX (i:=4) je.nd rfl (by first|exact Or.inl rfl|exact Or.inr rfl) (vJ (oR rfl) (by rfl) T.Qv Ql (ak (Jc (by rfl) T.iI (ak (pv 3) aC)) aC)))
   (aF (pY PassesOwn.never (aY mD (pv 4) dW (bx _))
   (aB (bI (fM (aQ pX (hr.mono (by decide)) (ak (pv 4) (ak (pv 2) aC)))) (aF (aP (pv 4))) aZ)
   (aF (aX (i:=4) je.nd rfl (by first|exact Or.inl rfl|exact Or.inr rfl) (aQ ju (hr.mono (by decide)) (ak (pv 4) (ak (pv 1) aC))))))))))
   (aF (aP (vJ (oR rfl) (by rfl) T.Qv Ql (ak (Jc (by rfl) T.iI (ak (pv 1) aC)) aC)))))),?_⟩
  refine⟨_,rfl,tq,tas,ts,n,rfl,htq,hT,hl,hn,h16,fun H1 d ds hH1 hd0 hd hD=>?_⟩
  have tl: ∀{p:List Nat},Fs.Pick n p→(ds.all fun d=>decide (d&&& Fs.bitsOf p≠0))=Sx03.tells ts p:=fun{p} hp=>by
   rw[Bool.eq_iff_iff]
   exact(O2 hD hl p).trans (Fs.Ol hl hp).symm
  refine⟨_,rfl,(n:Int),rfl,by omega,by omega,vI (lo:=0) (n:=(n:Int).toNat) (fun i σ H'=>∃(v3 v4:Option V),σ=[some (.ref tq),some (.int (n:Nat)),some (.ref d),v3,v4]∧Same H1 H'∧∀q,Fs.Pick n q→q.length<i→Sx03.tells ts q=false) ?_ ?_ ?_⟩
  ·exact⟨_,_,rfl,Same.refl _,fun q _ h=>absurd h (Nat.not_lt_zero _)⟩
  ·rintro i σ H2 hi ⟨v3,v4,rfl,hH2,hlow⟩
   have hi:i<n:=by omega
   refine⟨_,rfl,(0:Int)+(i:Int),rfl,fun rq hrq=>?_⟩
   rw[Int.zero_add]
   have sr:=Same.new (o:=HO.rng 0 (i:Int)) hrq
   refine⟨rq,0,(i:Int),rfl,aA,⟨by omega,by omega,by omega,by omega⟩,fun ca0 hca0=>?_⟩
   rw[Jk]
   have s13:=hH2.trans (sr.trans (Same.new (o:=HO.lst ((bh (List.range i)).map V.int)) hca0))
   refine⟨fun m σ H'=>(∃(p:List Nat) (ca:Addr),σ=[some (.ref tq),some (.int (n:Nat)),some (.ref d),some (.int (i:Nat)),some (.ref ca)]∧H' ca=some (.lst (nv p))∧H ca=none∧Fs.Pick n p∧p.length=i∧(∀q,Fs.Pick n q→q.length=i→Fs.lx q p→Sx03.tells ts q=false)∧Same H1 H'∧m+valN n p=n ^ i)∨
    (σ=[some (.ref tq),some (.int (n:Nat)),some (.ref d),some (.int (i:Nat)),some .non]∧Same H1 H'∧m=0∧∀q,Fs.Pick n q→q.length=i→Sx03.tells ts q=false),?_,?_⟩
   ·have hp:=Fs.FN (n:=n) (m:=i) (by omega)
    have hv:=Gk hp.lt
    rw[List.length_range] at hv
    refine⟨n ^ i - valN n (List.range i),.inl ⟨List.range i,ca0,rfl,aA,?_,hp,List.length_range,fun q hq hql hlx=>?_,s13,by omega⟩⟩
    ·exact hH1.free (hH2.free (sr.free hca0))
    ·exact absurd hlx (Fs.Bw hq hql)
   rintro m σ H3 (⟨p,ca,rfl,hca,abx,hp,hpl,hlx,hH3,hm⟩|⟨rfl,hH3,rfl,hno⟩)
   ·refine⟨_,rfl,rfl,_,rfl,cB ?_⟩
    refine⟨fun σ' H'=>∃m',m'<m∧((∃(p:List Nat) (ca:Addr),σ'=[some (.ref tq),some (.int (n:Nat)),some (.ref d),some (.int (i:Nat)),some (.ref ca)]∧H' ca=some (.lst (nv p))∧H ca=none∧Fs.Pick n p∧p.length=i∧(∀q,Fs.Pick n q→q.length=i→Fs.lx q p→Sx03.tells ts q=false)∧Same H1 H'∧m'+valN n p=n ^ i)∨
     (σ'=[some (.ref tq),some (.int (n:Nat)),some (.ref d),some (.int (i:Nat)),some .non]∧Same H1 H'∧m'=0∧∀q,Fs.Pick n q→q.length=i→Sx03.tells ts q=false)),fun _ _ h=>h,?_⟩
    refine⟨_,rfl,_,rfl,ca,d,p,ds,rfl,hca,hH3 _ _ hd,fun x hx=>by have:=hp.lt x hx;omega,fun H4 hH4=>⟨_,rfl,?_⟩⟩
    rw[tl hp]
    have hv:=Gk hp.lt
    rw[hpl] at hv
    cases ht:Sx03.tells ts p with
    |true=>
     exact cB ⟨_,rfl,k H4 ca p (hH1.trans (hH3.trans hH4)) abx (hH4 _ _ hca) hp ht (fun q hq h=>hlow q hq (by omega)) fun q hq h=>hlx q hq (by omega)⟩
    |false=>
     refine cA ?_
     refine⟨_,rfl,_,rfl,ca,p,n,rfl,hH4 _ _ hca,hp,hn,fun htop H5 hH5=>?_,fun j v hv1 hv2 hv3 H5 q hH5 hq0 hq=>?_⟩
     ·refine⟨0,by omega,.inr ⟨rfl,hH3.trans (hH4.trans hH5),rfl,fun q hq hql=>?_⟩⟩
      rcases Fs.QJ (p:=q) (q:=p) (by omega) with e|e|e
      ·rw[e];exact ht
      ·exact hlx q hq hql e
      ·exact absurd e (Fs.Ur hp htop hq (by omega))
     ·have np:=Fs.Us hp hv1 hv2
      have nl:=Fs.FJ hp hv1
      have ng:=Fs.Yo hp hv1
      have vl:=W8 nl.symm hp.lt ng
      have hv5:=Gk np.lt
      rw[nl,hpl] at hv5
      refine⟨n ^ i - valN n (Fs.iw p j v),by omega,.inl ⟨Fs.iw p j v,q,rfl,hq,hH1.free (hH3.free (hH4.free hq0)),np,by omega,fun q' hq' hql' hx'=>?_,hH3.trans (hH4.trans hH5),by omega⟩⟩
      rcases Fs.Yp hp hv1 hv3 hq' (by omega) hx' with e|e
      ·rw[e];exact ht
      ·exact hlx q' hq' hql' e
   ·refine⟨_,rfl,rfl,_,rfl,cA ?_⟩
    refine⟨_,_,rfl,hH3,fun q hq h=>?_⟩
    by_cases e:q.length=i
    ·exact hno q hq e
    ·exact hlow q hq (by omega)
  ·rintro σ H2 ⟨v3,v4,rfl,hH2,hlow⟩
   refine⟨_,rfl,(n:Int),rfl,fun rq hrq=>?_⟩
   have sr:=Same.new (o:=HO.rng 0 (n:Int)) hrq
   refine⟨rq,0,(n:Int),rfl,aA,⟨by omega,by omega,by omega,by omega⟩,fun ca hca=>?_⟩
   rw[Jk]
   have s13:=hH2.trans (sr.trans (Same.new (o:=HO.lst ((bh (List.range n)).map V.int)) hca))
   refine k _ ca (List.range n) (hH1.trans s13) (hH1.free (hH2.free (sr.free hca))) aA (Fs.FN (Nat.le_refl _)) hall (fun q hq h=>hlow q hq ?_) fun q hq h hx=>?_
   ·rw[List.length_range] at h
    omega
   ·rw[List.length_range] at h
    exact absurd hx (Fs.Bw hq h)
def yZ(K:PySem.W.Frag)(cRd cL cR cW pt:Addr):Sp:=fun vs H Q _=>∃(l r:Addr) (s:Sx03.St) (t:Nat) (S:Sh) (ts:List (List Nat)),vs=[.ref l,.ref r]∧vq K cRd cL cR cW pt H l r s t S ((ts.length:Int)::enc (ts.map bh))∧ts.length≤100∧sZ cL cR cW pt H l r s t S (.parts ts) Q
theorem HB(F:Fun K "call_parts" "call_parts" rC f fd)(T:Txt K mg aD aK aH au aj){pt:Addr}(bQ:GM P w K mg base au "take_lists" 4 ["self"] (lH K au))(fL:GF P w K mg base "are_stems" 1 ["stems"] (yO))(d7:GF P w K mg base "list_table" 8 ["language","word"] (yV aj aD aH pt))(sH:GC P w K mg base "Word" aH 1 ["self","group","stems"] (yN aH))(sV:GF P w K mg base "find_parts" 3 ["tables","cells"] (vA))(bV:GM P w K mg base aj "count_all_cells" 2 ["self"] (sJ aj aD aH)):bJ P w K mg base CX0 9 f fd ["language","told"] (yZ K au aj aD aH pt):=by
 refine F.ok jh (fun vs H Q E h=>?_) (fun cdv A outer s H vs Q E hr h=>?_)
 ·obtain⟨l,r,s,t,S,ts,rfl,_⟩:=h
  rfl
 ·obtain⟨l,r,s0,t,S,ts,rfl,I,hts,D⟩:=h
  obtain⟨a,ns,hR⟩:=I.ci.rd
  have st:=Fs.Ei I.dims ts
  have hdm:=I.ci.wf.dimsOk I.dims
  have n16:=I.ci.wf.JR
  have epl:(iv (s0.classes.map fO)).length=s0.classes.length:=by rw[List.length_map,List.length_map]
  refine⟨_,(aB (aX (i:=2) jh.nd rfl (by first|exact Or.inl rfl|exact Or.inr rfl) (bf (pv 1) bQ (hr.mono (by decide))))
   (aB (bI (gM (fM (aQ fL (hr.mono (by decide)) (ak (pv 2) aC)))) (aF (aP (bG (ak (bW T.cX) aC)))) aZ)
   (aB (uh (own:=[("group",4)]) (i:=3) rfl jh.nd rfl rfl (yj rfl rfl rfl rfl) (gH (by rfl) T.iI (ak (bA aV (by rfl) T.cV PySem.boot_len (ak (aW (pv 0) rfl) aC)) aC)) (fU (by rfl)) (fun _ _ _ _ _=>(bF (i:=4) jh.nd rfl (by first|exact Or.inl rfl|exact Or.inr rfl))) (fun _ _ _ _ _=>jG) (fun _ _ _ _ _=>(aQ d7 (hr.mono (by decide)) (ak (pv 0) (ak (jd sH (hr.mono (by decide)) (ak (pv 4) (ak (pv 2) aC))) aC)))))
   (aB (aX (i:=5) jh.nd rfl (by first|exact Or.inl rfl|exact Or.inr rfl) (aQ sV (hr.mono (by decide)) (ak (pv 3) (ak (bf (pv 0) bV (hr.mono (by decide))) aC))))
   (aF (aP (dF jF (bG (ak (bA aV (by rfl) T.cV PySem.boot_len (ak (pv 5) aC)) aC)) (pv 5)))))))),?_⟩
  obtain⟨dx0,p0,h0⟩:=hR.at
  refine⟨_,rfl,r,_,_,rfl,h0,pK,r,a,ns,ts.map bh,[],rfl,by rw[List.length_map];omega,(by rw[List.length_map,List.append_nil];exact hR),fun H1 sa as k1 hR1 hs0 hs1 has hA=>?_⟩
  refine⟨_,rfl,sa,as,ts,rfl,hs1,hA,fun H3 hH3=>⟨_,rfl,?_⟩⟩
  have k03:=k1.trans (aL.same hH3)
  have A3:=I.tL k03
  have hR3:=hR1.same hH3
  have h64:=A3.Dc
  cases hs:Sx03.stemsOk ts with
  |false=>
   rw[hs] at st
   exact cB ⟨(by show 1≤sizeLine;decide),fun q hq=>D.no I st k03 hR3.ne hq⟩
  |true=>
   rw[hs] at st
   refine cA ?_
   have hs3:=hH3 _ _ hs1
   have hA3:bD H3 as (ts.map bh):=hA.mono fun a _ o e=>hH3 a o e
   refine⟨_,rfl,l,_,_,_,_,rfl,A3.lat.lang,T.aR,T.dD,nA,S.pa,_,rfl,.inl (SqL.of A3.lat.par),(((iv (s0.classes.map fO)).length:Nat):Int),rfl,by rw[epl];omega,by rw[epl];omega,fun Dl hD=>?_⟩
   refine p8 (lo:=0) (n:=((((iv (s0.classes.map fO)).length:Nat):Int)).toNat) (fun i H'=>∃tas,aL [pt] H3 H'∧dM H' pt∧H' Dl=some (.lst (tas.map V.ref))∧tas.length=i∧∀(j:Nat) a,tas[j]?=some a→a≠Dl∧∃bs,H' a=some (.lst (bs.map V.ref))∧bD H' bs (dZ s0 ⟨j,ts,[]⟩)∧∀b∈bs,b≠Dl) ⟨[],aL.same (Same.new hD),A3.tab.same (Same.new hD),aA,rfl,fun j a e=>by cases e⟩ ?_ ?_
   ·rintro i H4 hi ⟨tas,k4,T4,hD4,hl4,hF⟩
    rw[epl] at hi
    have A4:=A3.keep k4 T4
    have kt4:=KT.of k4 A3.tab
    refine⟨rfl,jH ?_⟩
    refine⟨_,rfl,_,rfl,_,rfl,fun x dx hx hdx ndx=>⟨x,dx,sa,((0:Int)+(i:Int)),rfl,aA,fun H5 d e1 e2 e3 k5=>⟨rfl,?_⟩⟩⟩
    rw[Int.zero_add] at e1
    have sm:=jB (C:=aH) hx hdx ndx
    have s45:Same H4 H5:=fun b o e=>k5 b o (sm b o e) (by simpa using aG e hx)
    have kt35:=kt4.trans (KT.same s45)
    have hWd:Lb aH H5 s0.dims x ⟨i,ts,[]⟩:=⟨dx,sa,d,as,[],e1,kt35.lst hs3,kt35.lists hA3,e2,fun c hc=>True.intro⟩
    have A5:=A4.same s45
    refine⟨l,x,s0,t,S,⟨i,ts,[]⟩,rfl,A5,hWd,⟨by show i<_;omega,hs,fun p hp=>by cases hp⟩,fun H6 q bs k6 T6 hq0 hf hq hA6=>?_⟩
    have kt6:=KT.of k6 A5.tab
    have hD5:=s45 _ _ hD4
    have hD6:=kt6.lst hD5
    have nqD:q≠Dl:=Ne.symm (aG hD5 hq0)
    have nbD: ∀b∈bs,b≠Dl:=fun b hb=>Ne.symm (aG hD5 (hf b hb))
    have up: ∀{a:Addr} {zs:List V},a≠Dl→H6 a=some (.lst zs)→(upd H6 Dl (.lst (tas.map V.ref++[V.ref q]))) a=some (.lst zs):=fun{a zs} n e=>by rw[aJ n];exact e
    refine⟨_,hD6,by rw[List.length_map,hl4];exact small (by omega),tas++[q],fun b o e nb=>?_,?_,?_,by rw[List.length_append,hl4];rfl,fun j a' e=>?_⟩
    ·rw[aJ (aG e hD)];exact k6 b o (s45 _ _ (k4 b o e nb)) nb
    ·refine dM.keep T6 (l:=[Dl]) (aL.upd (by simp)) fun b hb u e=>?_
     rw[List.mem_singleton.mp hb,hD6] at e
     cases e
     exact⟨fun ps q=>(nomatch q),fun φ q=>(nomatch q)⟩
    ·rw[aA,List.map_append];rfl
    ·by_cases qj:j<tas.length
     ·rw[List.getElem?_append_left qj] at e
      obtain⟨n1,bs',h1,h2,h3⟩:=hF j a' e
      have kt46:=(KT.same s45).trans kt6
      exact⟨n1,bs',up n1 (kt46.lst h1),⟨h2.1,fun m c zs hc hz=>up (h3 c (List.mem_of_getElem? hc)) (kt46.lst (h2.2 m c zs hc hz))⟩,h3⟩
     ·rw[List.getElem?_append_right (by omega)] at e
      have hj:j - tas.length=0:=by
       have:=(List.getElem?_eq_some_iff.mp e).1
       simp at this
       omega
      rw[hj] at e
      have e:q=a':=by simpa using e
      subst e
      have ej:j=i:=by omega
      subst ej
      exact⟨nqD,bs,up nqD hq,⟨hA6.1,fun m c zs hc hz=>up (nbD c (List.mem_of_getElem? hc)) (hA6.2 m c zs hc hz)⟩,nbD⟩
   ·rintro H4 ⟨tas,k4,T4,hD4,hl4,hF⟩
    rw[epl] at hl4
    have hl4:tas.length=s0.classes.length:=by omega
    have A4:=A3.keep k4 T4
    refine⟨_,rfl,_,rfl,l,_,_,rfl,A4.lat.lang,nF,l,s0,t,S,rfl,A4.lat,KH hdm,fun H5 hH5=>?_⟩
    rw[←Fs.fW]
    refine⟨Dl,_,tas,(List.range s0.classes.length).map fun k=>s0.table ⟨k,ts,[]⟩,rfl,hH5 _ _ hD4,⟨by rw[hl4,List.length_map,List.length_range],fun j a gs ha hg=>?_⟩,fun g hg=>?_,h64,by rw[List.length_map,List.length_range];exact n16,Fs.Ua,fun H6 q r hH6 hq0 hq hp ht h1 h2=>?_⟩
    ·have hj:j<s0.classes.length:=by rw[←hl4];exact(List.getElem?_eq_some_iff.mp ha).1
     rw[List.getElem?_map,List.getElem?_range hj] at hg
     have hg:s0.table ⟨j,ts,[]⟩=gs:=Option.some.inj hg
     subst hg
     obtain⟨_,bs,g1,g2,_⟩:=hF j a ha
     exact⟨bs,hH5 _ _ g1,g2.mono fun a _ o e=>hH5 a o e⟩
    ·obtain⟨k,_,rfl⟩:=List.mem_map.mp hg
     exact oK _ _
    ·have er:=Fs.Wi hp ht h1 h2
     rw[er] at st
     have hrl:=Fs.Oe hp
     refine⟨_,rfl,q,_,rfl,.inl (SqL.of hq),(by show 1≤sizeLine;decide),fun p hp'=>?_⟩
     have sp:=Same.new (o:=HO.lst [V.int ((nv r).length:Nat)]) hp'
     refine⟨_,rfl,p,q,_,_,rfl,rfl,aA,sp _ _ hq,?_,fun q2 hq2=>?_⟩
     ·rw[bY]
      show 1+_≤sizeLine
      exact gO (by omega)
     ·have s7:=(hH5.trans hH6).trans (sp.trans (Same.new (o:=HO.lst ([V.int ((nv r).length:Nat)]++nv r)) hq2))
      refine D.fin I st k03 hR3.ne (k4.trans (aL.same s7)) (TabOk.same T4 s7) (ji k4 T4 (hH5.free (hH6.free (sp.free hq2)))) ?_
      rw[aA,bY]
      rfl
end
theorem W9(op:Sx03.Op):Sx03Neutral.opOut op=cT op::(xq op++enc (bL op)):=by
 have e: ∀b:List Nat,Sx03Neutral.listOut b=(b.length:Int)::bh b:=fun b=>rfl
 have e2: ∀b:List Nat,enc [bh b]=(b.length:Int)::bh b:=fun b=>by
  unfold enc
  rw[List.flatMap_cons,List.flatMap_nil,List.append_nil,bU]
 cases op with
 |behind b=>show(0:Int)::Sx03Neutral.listOut b=0::enc [bh b];rw[e,e2]
 |ahead b=>show(1:Int)::Sx03Neutral.listOut b=1::enc [bh b];rw[e,e2]
 |instead k b=>show(2:Int)::(k:Int)::Sx03Neutral.listOut b=2::(k:Int)::enc [bh b];rw[e,e2]
 |change a b=>
  show(3:Int)::(Sx03Neutral.listOut a++Sx03Neutral.listOut b)=3::enc [bh a,bh b]
  have e3:enc [bh a,bh b]=enc [bh a]++enc [bh b]:=by unfold enc;simp
  rw[e,e,e3,e2,e2]
 |twice k=>rfl
 |stem j=>rfl
 |refer l=>
  show(6:Int)::(l.length:Int)::(l.map fun x=>_)=6::enc [dJ l]
  have e3:enc [dJ l]=(l.length:Int)::dJ l:=by
   unfold enc
   rw[List.flatMap_cons,List.flatMap_nil,List.append_nil]
   show((dJ l).length:Int)::dJ l=_
   unfold dJ
   rw[List.length_map]
  rw[e3]
  congr 2
  unfold dJ
  refine List.map_congr_left fun x _=>?_
  cases x<;>rfl
 |gap=>rfl
theorem vB(ts:List (List Nat)):Sx03Neutral.stemsOut ts=(ts.length:Int)::enc (ts.map bh):=by
 rw[WT]
 rfl
def Jl(cL cR cW pt:Addr)(H:Hp)(l r:Addr)(s:Sx03.St)(t:Nat)(S:Sh)(x:Fs.jJ)(Q:VK):Prop:=
 ∀H' S' q,LAt cL cR cW H' l (Sx03.step s x).1 (t+1) S'→QD H l S S'→aL (pt::r::S.own l) H H'→dM H' pt→H q=none→H' q=some (.lst (iv (Fs.jZ (Sx03.step s x).2)))→Q (.ref q) H'
section
variable{K:PySem.W.Frag}{cRd cL cR cW pt:Addr}{H H1 H2:Hp}{l r q:Addr}{s:Sx03.St}{t:Nat}{S:Sh}{told:List Int}{x:Fs.jJ}{Q:VK}
theorem LAt.YB(L:LAt cL cR cW H l s t S){b:Addr}(hb:b∈S.own l){u:HO}(e:H b=some u):(∀ps,u≠ .tbl ps)∧∀φ,u≠ .ext φ:=by
 have m:b=l∨b=S.pa∨b=S.ra∨b=S.wa∨b∈S.das:=by simpa [Sh.own] using hb
 rcases m with rfl|rfl|rfl|rfl|m
 ·rw[L.lang] at e;cases e;exact⟨fun ps q=>(nomatch q),fun φ q=>(nomatch q)⟩
 ·rw[L.par] at e;cases e;exact⟨fun ps q=>(nomatch q),fun φ q=>(nomatch q)⟩
 ·rw[L.rules] at e;cases e;exact⟨fun ps q=>(nomatch q),fun φ q=>(nomatch q)⟩
 ·rw[L.words] at e;cases e;exact⟨fun ps q=>(nomatch q),fun φ q=>(nomatch q)⟩
 ·obtain⟨j,hj⟩:=List.mem_iff_getElem?.mp m
  have hl:=(List.getElem?_eq_some_iff.mp hj).1
  have h1:S.was[j]?=some (S.was[j]'(by rw[L.tG,←L.wY];exact hl)):=List.getElem?_eq_getElem _
  have h2:s.words[j]?=some (s.words[j]'(by rw[←L.wY];exact hl)):=List.getElem?_eq_getElem _
  obtain⟨_,_,_,_,_,_,_,q,_⟩:=(L.wat j _ b _ h1 hj h2).ex
  rw[q] at e;cases e;exact⟨fun ps q=>(nomatch q),fun φ q=>(nomatch q)⟩
theorem Jl.done(D:Jl cL cR cW pt H l r s t S x Q)(I:nJ K cRd cL cR cW H l r s t S told)(TA:dM H pt):Done cL cR cW H l r s t S x Q:=fun H' S' q a b c d e=>by
 obtain⟨ra,ns,hR⟩:=I.rd
 obtain⟨dx,p,hr⟩:=hR.at
 refine D H' S' q a b (c.mono fun b hb=>List.mem_cons_of_mem _ hb) (dM.keep TA c fun b hb u e=>?_) d e
 rcases List.mem_cons.mp hb with hb|hb
 ·rw[hb,hr] at e;cases e;exact⟨fun ps q=>(nomatch q),fun φ q=>(nomatch q)⟩
 ·exact I.lat.YB hb e
theorem Jl.doneA(D:Jl cL cR cW pt H l r s t S x Q)(hx:(Sx03.step s x).1=s):sZ cL cR cW pt H l r s t S x Q:=fun H' q a b c d e=>
 D H' S q (by rw[hx];exact a.later (Nat.le_succ t)) QD.refl (b.mono fun z hz=>by
  have:z=pt∨z=r:=by simpa using hz
  rcases this with rfl|rfl<;>simp) c d e
end
section
variable{P:Program}{w:World}{K:PySem.W.Frag}{mg:Str→Option Value}{base:Heap}{au aD aj aH aK:Addr}{f:Addr}{fd:FuncData}
def Gm(K:PySem.W.Frag)(cRd cL cR cW pt:Addr):Sp:=fun vs H Q _=>∃(l r:Addr) (s:Sx03.St) (t:Nat) (S:Sh) (x:Fs.jJ),vs=[.ref l,.int ((Sx03Neutral.callOut x).headD 0),.ref r]∧nJ K cRd cL cR cW H l r s t S (Sx03Neutral.callOut x).tail∧Sx03Neutral.callOf (Sx03Neutral.callOut x)=some x∧dM H pt∧Out S l pt∧Jl cL cR cW pt H l r s t S x Q
theorem xP{α:Type}{p:Sx03Neutral.P α}{n:Int}{l:List Int}{y:List α×List Int}(h:Sx03Neutral.listed p (n::l)=some y):n≤100:=by
 unfold Sx03Neutral.listed at h
 split at h
 ·rename_i q;injection q with q1 q2;split at h
  ·rename_i c;omega
  ·cases h
 ·rename_i q;cases q
theorem Xa{k:Nat}{ts:List (List Nat)}(h:Sx03Neutral.callOf (Sx03Neutral.callOut (Sx03.Call.word k ts))=some (Sx03.Call.word k ts)):ts.length≤100:=by
 have h:Sx03Neutral.whole (Sx03Neutral.listed Sx03Neutral.bytes (Sx03Neutral.stemsOut ts)) (Sx03.Call.word ((k:Int).toNat))=some (Sx03.Call.word k ts):=h
 cases e:Sx03Neutral.listed Sx03Neutral.bytes (Sx03Neutral.stemsOut ts) with
 |none=>rw[e] at h;cases h
 |some y=>
  have:=xP (n:=(ts.length:Int)) e
  omega
theorem Uz{ts:List (List Nat)}(h:Sx03Neutral.callOf (Sx03Neutral.callOut (Sx03.Call.parts ts))=some (Sx03.Call.parts ts)):ts.length≤100:=by
 have h:Sx03Neutral.whole (Sx03Neutral.listed Sx03Neutral.bytes (Sx03Neutral.stemsOut ts)) Sx03.Call.parts=some (Sx03.Call.parts ts):=h
 cases e:Sx03Neutral.listed Sx03Neutral.bytes (Sx03Neutral.stemsOut ts) with
 |none=>rw[e] at h;cases h
 |some y=>
  have:=xP (n:=(ts.length:Int)) e
  omega
theorem Xb{b:List Nat}(h:Sx03Neutral.callOf (Sx03Neutral.callOut (Sx03.Call.find b))=some (Sx03.Call.find b)):b.length≤100:=by
 have h:Sx03Neutral.whole (Sx03Neutral.bytes (Sx03Neutral.listOut b)) Sx03.Call.find=some (Sx03.Call.find b):=h
 cases e:Sx03Neutral.bytes (Sx03Neutral.listOut b) with
 |none=>rw[e] at h;cases h
 |some y=>
  have:=xP (n:=(b.length:Int)) e
  omega
theorem O4{α:Type}{p:Sx03Neutral.P α}: ∀{n:Nat} {l:List Int} {y:List α×List Int},Sx03Neutral.many p n l=some y→y.1.length=n
 |0,l,y,h=>by
  have h:some ([],l)=some y:=h
  rw[←Option.some.inj h]
  rfl
 |n+1,l,y,h=>by
  have h:((p l).bind fun x=>(Sx03Neutral.many p n x.2).map fun y=>(x.1::y.1,y.2))=some y:=h
  obtain⟨x,hx,h⟩:=Option.bind_eq_some_iff.mp h
  obtain⟨z,hz,h⟩:=Option.map_eq_some_iff.mp h
  rw[←h]
  show z.1.length+1=n+1
  rw[O4 hz]
theorem O5{α:Type}{p:Sx03Neutral.P α}{C:α→Prop}(hp: ∀l y,p l=some y→C y.1): ∀{n:Nat} {l:List Int} {y:List α×List Int},Sx03Neutral.many p n l=some y→∀x∈y.1,C x
 |0,l,y,h=>by
  have h:some ([],l)=some y:=h
  rw[←Option.some.inj h]
  intro x hx
  cases hx
 |n+1,l,y,h=>by
  have h:((p l).bind fun x=>(Sx03Neutral.many p n x.2).map fun y=>(x.1::y.1,y.2))=some y:=h
  obtain⟨x,hx,h⟩:=Option.bind_eq_some_iff.mp h
  obtain⟨z,hz,h⟩:=Option.map_eq_some_iff.mp h
  rw[←h]
  intro u hu
  rcases List.mem_cons.mp hu with e|e
  ·rw[e];exact hp l x hx
  ·exact O5 hp hz u e
theorem xQ{α:Type}{p:Sx03Neutral.P α}{C:α→Prop}(hp: ∀l y,p l=some y→C y.1){l:List Int}{y:List α×List Int}(h:Sx03Neutral.listed p l=some y):y.1.length≤100∧∀x∈y.1,C x:=by
 cases l with
 |nil=>cases h
 |cons n l=>
  have h:(if 0≤n∧n≤100 then Sx03Neutral.many p n.toNat l else none)=some y:=h
  split at h
  ·rename_i c
   exact⟨by rw[O4 h];omega,O5 hp h⟩
  ·cases h
theorem Lq{ts:List (List Nat)}{ps:List Pair}(h:Sx03Neutral.callOf (Sx03Neutral.callOut (Sx03.Call.may ts ps))=some (Sx03.Call.may ts ps)):ts.length≤100∧ps.length≤100∧∀p∈ps,p.2.length≤100:=by
 have h:((Sx03Neutral.listed Sx03Neutral.bytes (Sx03Neutral.stemsOut ts++Sx03Neutral.ofNat ps.length::ps.flatMap fun(x:Sx03.Cell×Sx03.Bytes)=>Sx03Neutral.listOut x.1++Sx03Neutral.listOut x.2)).bind fun x=>Sx03Neutral.whole (Sx03Neutral.listed Sx03Neutral.pairIn x.2) (Sx03.Call.may x.1))=some (Sx03.Call.may ts ps):=h
 obtain⟨x,hx,h⟩:=Option.bind_eq_some_iff.mp h
 have h:((Sx03Neutral.listed Sx03Neutral.pairIn x.2).bind fun y=>if y.2.isEmpty=true then some (Sx03.Call.may x.1 y.1) else none)=some (Sx03.Call.may ts ps):=h
 obtain⟨y,hy,h⟩:=Option.bind_eq_some_iff.mp h
 split at h
 ·injection h with h
  injection h with h1 h2
  obtain⟨g1,_⟩:=xQ (C:=fun _=>True) (fun _ _ _=>trivial) hx
  obtain⟨g2,g3⟩:=xQ (C:=fun p:Pair=>p.2.length≤100) (fun l y hy=>by
   have hy:((Sx03Neutral.listed Sx03Neutral.nat l).bind fun x=>(Sx03Neutral.bytes x.2).map fun z=>((x.1,z.1),z.2))=some y:=hy
   obtain⟨u,_,hy⟩:=Option.bind_eq_some_iff.mp hy
   obtain⟨v,hv,hy⟩:=Option.map_eq_some_iff.mp hy
   rw[←hy]
   exact(xQ (C:=fun _=>True) (fun _ _ _=>trivial) hv).1) hy
  rw[h1] at g1
  rw[h2] at g2 g3
  exact⟨g1,g2,g3⟩
 ·cases h
theorem O6(ps:List Pair):(ps.flatMap fun(x:Sx03.Cell×Sx03.Bytes)=>Sx03Neutral.listOut x.1++Sx03Neutral.listOut x.2)=encP ps:=rfl
theorem UG{s:Sx03.St}(h:s.dims=[]){x:Fs.jJ}(n:(Sx03Neutral.callOut x).headD 0≠0):Sx03.step s x=(s,Sx03.ok (-4)):=by
 cases x with
 |new_ l=>exact absurd rfl n
 |_=>exact if_pos h
theorem UJ(F:Fun K "answer" "answer" uW f fd)(T:Txt K mg aD aK aH au aj){pt f0 f1 f2 f3 f4 f5 f6 f7 f8 f9 f10 f11 f12 f13:Addr}(qF:GT K mg "TELLING" [.ref f0,.ref f1,.ref f2,.ref f3,.ref f4,.ref f5,.ref f6])(Gn:GT K mg "ASKING" [.ref f7,.ref f8,.ref f9,.ref f10,.ref f11,.ref f12,.ref f13])
  (gj:GM P w K mg base aj "has_features" 1 ["self"] (wZ aj aD aH))
  (V0:GV P w K mg base f0 4 ["language","told"] (R6 K au aj aD aH))
  (V1:GV P w K mg base f1 3 ["language","told"] (CT K au aj aD aH))
  (V2:GV P w K mg base f2 5 ["language","told"] (KN K au aj aD aH))
  (V3:GV P w K mg base f3 3 ["language","told"] (KR K au aj aD aH))
  (V4:GV P w K mg base f4 5 ["language","told"] (KZ K au aj aD aH))
  (V5:GV P w K mg base f5 5 ["language","told"] (R7 K au aj aD aH))
  (V6:GV P w K mg base f6 4 ["language","told"] (CV K au aj aD aH))
  (V7:GV P w K mg base f7 8 ["language","told"] (Lg K au aj aD aH pt))
  (V8:GV P w K mg base f8 9 ["language","told"] (yW K au aj aD aH pt))
  (V9:GV P w K mg base f9 9 ["language","told"] (Sq K au aj aD aH pt))
  (V10:GV P w K mg base f10 9 ["language","told"] (Dd K au aj aD aH pt))
  (V11:GV P w K mg base f11 9 ["language","told"] (Li K au aj aD aH pt))
  (V12:GV P w K mg base f12 9 ["language","told"] (Sv K au aj aD aH pt))
  (V13:GV P w K mg base f13 9 ["language","told"] (yZ K au aj aD aH pt)):bJ P w K mg base CX0 10 f fd ["language","call","told"] (Gm K au aj aD aH pt):=by
 refine F.ok Uh (fun vs H Q E h=>?_) (fun cdv A outer s H vs Q E hr h=>?_)
 ·obtain⟨l,r,s,t,S,x,rfl,_⟩:=h
  rfl
 ·obtain⟨l,r,s0,t,S,x,rfl,I,hof,TA,hop,D⟩:=h
  refine⟨_,(aB (bI (wK (aY Dq (pv 1) (bW T.Wu) (bx _)) (qL (gM (fM (bf (pv 0) gj (hr.mono (by decide))))))).pt (aF (aP (bG (ak (bW T.pH) aC)))) aZ)
   (aB (bI (aY mW (pv 1) (bA aV (by rfl) T.cV PySem.boot_len (ak (wu qF) aC)) (bx _)) (aF (aP (DQ (cJ tZ (wu qF) (pv 1) (fun _ _=>rfl)) hr (ak (pv 0) (ak (pv 2) aC))))) aZ)
   (aF (aP (DQ (cJ tZ (wu Gn) (dF lK (pv 1) (bA aV (by rfl) T.cV PySem.boot_len (ak (wu qF) aC))) (fun _ _=>rfl)) hr (ak (pv 0) (ak (pv 2) aC))))))),?_⟩
  have go: ∀H1,Same H H1→((Sx03Neutral.callOut x).headD 0≠0→s0.dims≠[])→BR (SN (Vl (tOp (rI0 fun i j=> .bl (decide (i<j))) (gW 1) (tCB (fun xs H Q=>∃p ys,xs=[V.ref p]∧(SqL K H p ys∨SqT K H p ys)∧Q (.int (ys.length:Nat)) H) (gQ (tGT K [.ref f0,.ref f1,.ref f2,.ref f3,.ref f4,.ref f5,.ref f6]) lC)))) (Dk (Qa (Jz CX0 P w K mg base ["language","call","told"] "answer" (aO uW) f cdv A outer s H E).nox 9 (tOp (Vr K) (tGT K [.ref f0,.ref f1,.ref f2,.ref f3,.ref f4,.ref f5,.ref f6]) (gW 1)) (gQ (gW 0) (gQ (gW 2) lC)))) HS) (Dk (Qa (Jz CX0 P w K mg base ["language","call","told"] "answer" (aO uW) f cdv A outer s H E).nox 9 (tOp (Vr K) (tGT K [.ref f7,.ref f8,.ref f9,.ref f10,.ref f11,.ref f12,.ref f13]) (tOp (rI0 fun i j=> .int (i - j)) (gW 1) (tCB (fun xs H Q=>∃p ys,xs=[V.ref p]∧(SqL K H p ys∨SqT K H p ys)∧Q (.int (ys.length:Nat)) H) (gQ (tGT K [.ref f0,.ref f1,.ref f2,.ref f3,.ref f4,.ref f5,.ref f6]) lC)))) (gQ (gW 0) (gQ (gW 2) lC)))) {nx:=fun _ H'=>Q .non H',rt:=Q} [some (.ref l),some (.int ((Sx03Neutral.callOut x).headD 0)),some (.ref r)] H1:=by
   intro H1 hH1 hd
   have I1:nJ K au aj aD aH H1 l r s0 t S (Sx03Neutral.callOut x).tail:=by
    obtain⟨a,ns,hR⟩:=I.rd
    exact⟨I.lat.same hH1,I.wf,I.few,⟨a,ns,hR.same hH1⟩,I.out⟩
   have T1:dM H1 pt:=TA.same hH1
   have D2:Jl aj aD aH pt H1 l r s0 t S x Q:=fun H' S' q a b c d e=>D H' S' q a (fun z ho hz=>b z ho (hH1.ne hz)) (fun z o e n=>c z o (hH1 z o e) n) d (hH1.free e)
   have D1:=D2.done I1 T1
   cases x with
   |new_ ds=>
    refine⟨_,rfl,?_⟩
    intro ta hta
    refine⟨ta,_,rfl,.inr (hta H1),_,_,rfl,rfl,_,rfl,cB ?_⟩
    intro tb htb
    exact⟨_,rfl,tb,_,_,.ref f0,rfl,rfl,htb H1,rfl,_,R6 K au aj aD aH,V0.fv (by decide),_,rfl,_,rfl,l,r,s0,t,S,ds,rfl,I1,D1⟩
   |group p=>
    refine⟨_,rfl,?_⟩
    intro ta hta
    refine⟨ta,_,rfl,.inr (hta H1),_,_,rfl,rfl,_,rfl,cB ?_⟩
    intro tb htb
    exact⟨_,rfl,tb,_,_,.ref f1,rfl,rfl,htb H1,rfl,_,CT K au aj aD aH,V1.fv (by decide),_,rfl,_,rfl,l,r,s0,t,S,p,rfl,I1,hd (by show(1:Int)≠0;decide),D1⟩
   |rule k b zs op=>
    have e:(Sx03Neutral.callOut (.rule k b zs op)).tail=(k:Int)::(b:Int)::(zs.length:Int)::(zs++(cT op::(xq op++enc (bL op)))):=by
     rw[←W9];rfl
    rw[e] at I1
    refine⟨_,rfl,?_⟩
    intro ta hta
    refine⟨ta,_,rfl,.inr (hta H1),_,_,rfl,rfl,_,rfl,cB ?_⟩
    intro tb htb
    exact⟨_,rfl,tb,_,_,.ref f2,rfl,rfl,htb H1,rfl,_,KN K au aj aD aH,V2.fv (by decide),_,rfl,_,rfl,l,r,s0,t,S,k,b,zs,op,rfl,I1,hd (by show(2:Int)≠0;decide),D1⟩
   |drop k=>
    refine⟨_,rfl,?_⟩
    intro ta hta
    refine⟨ta,_,rfl,.inr (hta H1),_,_,rfl,rfl,_,rfl,cB ?_⟩
    intro tb htb
    exact⟨_,rfl,tb,_,_,.ref f3,rfl,rfl,htb H1,rfl,_,KR K au aj aD aH,V3.fv (by decide),_,rfl,_,rfl,l,r,s0,t,S,k,rfl,I1,hd (by show(3:Int)≠0;decide),D1⟩
   |word k ts=>
    have e:(Sx03Neutral.callOut (.word k ts)).tail=(k:Int)::(ts.length:Int)::enc (ts.map bh):=by
     rw[←vB];rfl
    rw[e] at I1
    refine⟨_,rfl,?_⟩
    intro ta hta
    refine⟨ta,_,rfl,.inr (hta H1),_,_,rfl,rfl,_,rfl,cB ?_⟩
    intro tb htb
    exact⟨_,rfl,tb,_,_,.ref f4,rfl,rfl,htb H1,rfl,_,KZ K au aj aD aH,V4.fv (by decide),_,rfl,_,rfl,l,r,s0,t,S,k,ts,rfl,I1,Xa hof,hd (by show(4:Int)≠0;decide),D1⟩
   |odd n c b=>
    have e:(Sx03Neutral.callOut (.odd n c b)).tail=(n:Int)::(c.length:Int)::(bh c++Kv b):=by
     cases b<;>rfl
    have e0:(Sx03Neutral.callOut (.odd n c b)).headD 0=5:=by cases b<;>rfl
    rw[e] at I1
    rw[e0] at hd⊢
    refine⟨_,rfl,?_⟩
    intro ta hta
    refine⟨ta,_,rfl,.inr (hta H1),_,_,rfl,rfl,_,rfl,cB ?_⟩
    intro tb htb
    exact⟨_,rfl,tb,_,_,.ref f5,rfl,rfl,htb H1,rfl,_,R7 K au aj aD aH,V5.fv (by decide),_,rfl,_,rfl,l,r,s0,t,S,n,c,b,rfl,I1,hd (by decide),D1⟩
   |plain n c=>
    refine⟨_,rfl,?_⟩
    intro ta hta
    refine⟨ta,_,rfl,.inr (hta H1),_,_,rfl,rfl,_,rfl,cB ?_⟩
    intro tb htb
    exact⟨_,rfl,tb,_,_,.ref f6,rfl,rfl,htb H1,rfl,_,CV K au aj aD aH,V6.fv (by decide),_,rfl,_,rfl,l,r,s0,t,S,n,c,rfl,I1,hd (by show(6:Int)≠0;decide),D1⟩
   |form n c=>
    have hdn:=hd (by show(7:Int)≠0;decide)
    refine⟨_,rfl,?_⟩
    intro ta hta
    refine⟨ta,_,rfl,.inr (hta H1),_,_,rfl,rfl,_,rfl,cA ?_⟩
    intro tb htb
    refine⟨_,rfl,?_⟩
    intro tc htc
    exact⟨tc,_,rfl,.inr (htc H1),_,_,rfl,rfl,tb,_,_,.ref f7,rfl,rfl,htb H1,rfl,_,Lg K au aj aD aH pt,V7.fv (by decide),_,rfl,_,rfl,l,r,s0,t,S,n,c,rfl,⟨I1,hdn,T1,hop⟩,D2.doneA (by rw[Fs.Iz hdn])⟩
   |table n=>
    have hdn:=hd (by show(8:Int)≠0;decide)
    refine⟨_,rfl,?_⟩
    intro ta hta
    refine⟨ta,_,rfl,.inr (hta H1),_,_,rfl,rfl,_,rfl,cA ?_⟩
    intro tb htb
    refine⟨_,rfl,?_⟩
    intro tc htc
    exact⟨tc,_,rfl,.inr (htc H1),_,_,rfl,rfl,tb,_,_,.ref f8,rfl,rfl,htb H1,rfl,_,yW K au aj aD aH pt,V8.fv (by decide),_,rfl,_,rfl,l,r,s0,t,S,n,rfl,⟨I1,hdn,T1,hop⟩,D2.doneA (by rw[Fs.step_table hdn])⟩
   |why n c=>
    have hdn:=hd (by show(9:Int)≠0;decide)
    refine⟨_,rfl,?_⟩
    intro ta hta
    refine⟨ta,_,rfl,.inr (hta H1),_,_,rfl,rfl,_,rfl,cA ?_⟩
    intro tb htb
    refine⟨_,rfl,?_⟩
    intro tc htc
    exact⟨tc,_,rfl,.inr (htc H1),_,_,rfl,rfl,tb,_,_,.ref f9,rfl,rfl,htb H1,rfl,_,Sq K au aj aD aH pt,V9.fv (by decide),_,rfl,_,rfl,l,r,s0,t,S,n,c,rfl,⟨I1,hdn,T1,hop⟩,D2.doneA (by rw[Fs.Nt hdn])⟩
   |alike n=>
    have hdn:=hd (by show(10:Int)≠0;decide)
    refine⟨_,rfl,?_⟩
    intro ta hta
    refine⟨ta,_,rfl,.inr (hta H1),_,_,rfl,rfl,_,rfl,cA ?_⟩
    intro tb htb
    refine⟨_,rfl,?_⟩
    intro tc htc
    exact⟨tc,_,rfl,.inr (htc H1),_,_,rfl,rfl,tb,_,_,.ref f10,rfl,rfl,htb H1,rfl,_,Dd K au aj aD aH pt,V10.fv (by decide),_,rfl,_,rfl,l,r,s0,t,S,n,rfl,⟨I1,hdn,T1,hop⟩,D2.doneA (by rw[Fs.Eh hdn])⟩
   |find b=>
    have hdn:=hd (by show(11:Int)≠0;decide)
    refine⟨_,rfl,?_⟩
    intro ta hta
    refine⟨ta,_,rfl,.inr (hta H1),_,_,rfl,rfl,_,rfl,cA ?_⟩
    intro tb htb
    refine⟨_,rfl,?_⟩
    intro tc htc
    exact⟨tc,_,rfl,.inr (htc H1),_,_,rfl,rfl,tb,_,_,.ref f11,rfl,rfl,htb H1,rfl,_,Li K au aj aD aH pt,V11.fv (by decide),_,rfl,_,rfl,l,r,s0,t,S,b,rfl,⟨I1,hdn,T1,hop⟩,Nat.le_trans (Xb hof) (by decide),D2.doneA (by rw[Fs.IK hdn])⟩
   |may ts ps=>
    have hdn:=hd (by show(12:Int)≠0;decide)
    have e:(Sx03Neutral.callOut (.may ts ps)).tail=(ts.length:Int)::(enc (ts.map bh)++(ps.length:Int)::encP ps):=by
     rw[←O6,←List.cons_append,←vB];rfl
    rw[e] at I1
    refine⟨_,rfl,?_⟩
    intro ta hta
    refine⟨ta,_,rfl,.inr (hta H1),_,_,rfl,rfl,_,rfl,cA ?_⟩
    intro tb htb
    refine⟨_,rfl,?_⟩
    intro tc htc
    exact⟨tc,_,rfl,.inr (htc H1),_,_,rfl,rfl,tb,_,_,.ref f12,rfl,rfl,htb H1,rfl,_,Sv K au aj aD aH pt,V12.fv (by decide),_,rfl,_,rfl,l,r,s0,t,S,ts,ps,rfl,⟨I1,hdn,T1,hop⟩,(Lq hof).1,(Lq hof).2.1,(Lq hof).2.2,D2.doneA (by rw[Fs.Nu hdn])⟩
   |parts ts=>
    have hdn:=hd (by show(13:Int)≠0;decide)
    have e:(Sx03Neutral.callOut (.parts ts)).tail=(ts.length:Int)::enc (ts.map bh):=by
     rw[←vB];rfl
    rw[e] at I1
    refine⟨_,rfl,?_⟩
    intro ta hta
    refine⟨ta,_,rfl,.inr (hta H1),_,_,rfl,rfl,_,rfl,cA ?_⟩
    intro tb htb
    refine⟨_,rfl,?_⟩
    intro tc htc
    exact⟨tc,_,rfl,.inr (htc H1),_,_,rfl,rfl,tb,_,_,.ref f13,rfl,rfl,htb H1,rfl,_,yZ K au aj aD aH pt,V13.fv (by decide),_,rfl,_,rfl,l,r,s0,t,S,ts,rfl,⟨I1,hdn,T1,hop⟩,Uz hof,D2.doneA (by rw[Fs.Ei hdn])⟩
  refine⟨_,rfl,rfl,_,rfl,gA (fun c=>?_) (fun c=>?_)⟩
  ·have c:(Sx03Neutral.callOut x).headD 0≠0:=fun e=>by rw[e] at c;simp at c
   refine⟨_,rfl,l,_,_,rfl,I.lat.lang,Ca,l,s0,t,S,rfl,I.lat,fun H1 hH1=>⟨_,rfl,?_⟩⟩
   by_cases hd:s0.dims=[]
   ·rw[decide_eq_false (show¬s0.dims≠[] from fun q=>q hd)]
    obtain⟨a,ns,hR⟩:=I.rd
    exact cB ⟨(by show 1≤sizeLine;decide),fun q hq=>(D.done I TA).refuse (UG hd c) (aL.same hH1) (hR.same hH1).ne (I.lat.same hH1) hq⟩
   ·rw[decide_eq_true (show s0.dims≠[] from hd)]
    exact cA (go H1 hH1 fun _=>hd)
  ·refine cA (go H (Same.refl H) fun q=>?_)
   refine absurd ?_ c
   rw[decide_eq_false (show¬V.int ((Sx03Neutral.callOut x).headD 0)=V.int 0 from fun e=>q (by injection e))]
   rfl
end
open Sx03Neutral (callOut)
theorem Jm(a:List Int)(r:List (List Int)):PyFlat.told (a::r)=((a.length:Int)::a)++PyFlat.told r:=rfl
theorem O7: ∀ls:List (List Int),(PyFlat.told ls).length=(ls.map fun a=>a.length).sum+ls.length
 |[]=>rfl
 |a::r=>by
  rw[Jm,List.length_append,O7 r,List.map_cons,List.sum_cons,List.length_cons,List.length_cons]
  omega
theorem Jo: ∀(xs:List Fs.jJ) (s:Sx03.St),(Fs.plays s xs).length=xs.length
 |[],_=>rfl
 |x::r,s=>by
  show(Fs.plays _ r).length+1=r.length+1
  rw[Jo r]
theorem Y8{K:PySem.W.Frag}{H H':Hp}{pt a:Addr}{xs:List V}(h:SqL K H a xs)(k:aL [pt] H H')(T:dM H pt):SqL K H' a xs:=
 h.keep k fun c hc u e=>by
  obtain⟨ps,z⟩:=dM.ne T
  rw[List.mem_singleton.mp hc,z] at e
  cases e
  exact⟨fun q=>(nomatch q),fun o q=>(nomatch q)⟩
section
variable{P:Program}{w:World}{K:PySem.W.Frag}{mg:Str→Option Value}{base:Heap}{au aD aj aH aK:Addr}{f:Addr}{fd:FuncData}
def xR(K:PySem.W.Frag)(pt:Addr):Sp:=fun vs H Q _=>∃(a:Addr) (ns:List Int) (xs:List Fs.jJ),vs=[.ref a]∧SqL K H a (iv ns)∧ns=Fs.flat xs∧xs.length≤200∧Fs.Legal Sx03.none_ xs∧((Fs.plays Sx03.none_ xs).map fun a=>a.length).sum<1000000∧dM H pt∧
 ∀(H':Hp) (p:Addr),aL [pt] H H'→dM H' pt→H' p=some (.lst (iv (PyFlat.told (Fs.plays Sx03.none_ xs))))→Q (.ref p) H'
theorem Q7(F:Fun K "answers" "answers" iC f fd)(T:Txt K mg aD aK aH au aj){pt:Addr}(xT:GC P w K mg base "Language" aj 2 ["self"] (Ko aj aD aH))(zc:GC P w K mg base "Reader" au 1 ["self","numbers"] (Kl K au))(cC:GM P w K mg base au "left" 1 ["self"] (z6 K au))(aN:GM P w K mg base au "take" 2 ["self"] (gD K au))(aM:GM P w K mg base au "take_list" 3 ["self"] (cQ K au))(Gp:GF P w K mg base "answer" 10 ["language","call","told"] (Gm K au aj aD aH pt)):bJ P w K mg base CX0 11 f fd ["calls"] (xR K pt):=by
 refine F.ok jo (fun vs H Q E h=>?_) (fun cdv A outer s H vs Q E hr h=>?_)
 ·obtain⟨a,ns,xs,rfl,_⟩:=h
  rfl
 ·obtain⟨a,ns,xs0,rfl,hS,hns,hx200,aav,hsum,TA,k⟩:=h
  obtain⟨pts,hpt⟩:=dM.ne TA
  refine⟨_,(aB (aX (i:=1) jo.nd rfl (by first|exact Or.inl rfl|exact Or.inr rfl) (Tw xT (hr.mono (by decide))))
   (aB (aX (i:=2) jo.nd rfl (by first|exact Or.inl rfl|exact Or.inr rfl) (jd zc (hr.mono (by decide)) (ak (pv 0) aC)))
   (aB (aX (i:=3) jo.nd rfl (by first|exact Or.inl rfl|exact Or.inr rfl) (bG aC))
   (aB (pY PassesOwn.never (aY tY (bf (pv 2) cC (hr.mono (by decide))) bB (bx _))
   (aB (aX (i:=4) jo.nd rfl (by first|exact Or.inl rfl|exact Or.inr rfl) (bf (pv 2) aN (hr.mono (by decide))))
   (aB (aX (i:=5) jo.nd rfl (by first|exact Or.inl rfl|exact Or.inr rfl) (jd zc (hr.mono (by decide)) (ak (bf (pv 2) aM (hr.mono (by decide))) aC)))
   (aB (dj (bf (pv 2) aN (hr.mono (by decide))))
   (aB (aX (i:=6) jo.nd rfl (by first|exact Or.inl rfl|exact Or.inr rfl) (aQ Gp (hr.mono (by decide)) (ak (pv 1) (ak (pv 4) (ak (pv 5) aC)))))
   (aB (dj (jw PySem.F.plainAttrs_list PySem.F.slot_list_append PySem.F.type_list_append fQ (pv 3) (ak (bA aV (by rfl) T.cV PySem.boot_len (ak (pv 6) aC)) aC)))
   (aF (dj (jw PySem.F.plainAttrs_list PySem.F.slot_list_extend PySem.F.type_list_extend pZ (pv 3) (ak (pv 6) aC))))))))))
   (aF (aP (pv 3))))))),?_⟩
  intro l dl hl0 hdl0 ndl
  have sm:=jB (C:=aj) hl0 hdl0 ndl
  refine⟨l,dl,rfl,aA,fun H1 S1 L1 fs1 k1=>⟨rfl,?_⟩⟩
  have s1:Same H H1:=fun b o e=>k1 b o (sm b o e) (by simpa using aG e hl0)
  refine⟨_,rfl,fun rd drd hr0 hdr0 ndr=>?_⟩
  have sm2:=jB (C:=au) hr0 hdr0 ndr
  refine⟨rd,drd,a,ns,rfl,aA,(s1.trans sm2).seq hS,fun H2 k2 hR2=>⟨rfl,?_⟩⟩
  have s2:Same H1 H2:=fun b o e=>k2 b o (sm2 b o e) (by simpa using aG e hr0)
  have L2:=L1.same s2
  have ord:Out S1 l rd:=L1.out hr0
  refine⟨Nat.zero_le _,fun an han=>?_⟩
  have oan:Out S1 l an:=L2.out han
  have nar:an≠rd:=fun e=>hR2.ne (by rw[←e];exact han)
  have s3:Same H2 (upd H2 an (.lst [])):=Same.new han
  have o0: ∀b,H b≠none→Out S1 l b:=fun b hb=>by
   have nb: ∀{c:Addr},H c=none→b≠c:=fun{c} hc e=>hb (by rw[e];exact hc)
   obtain⟨g1,g2,g3,g4,g5,g6⟩:=fs1
   refine⟨fun m=>?_,?_⟩
   ·have m:b=l∨b=S1.pa∨b=S1.ra∨b=S1.wa∨b∈S1.das:=by simpa [Sh.own] using m
    rcases m with e|e|e|e|e
    ·exact nb hl0 e
    ·exact nb (sm.free g2) e
    ·exact nb (sm.free g3) e
    ·exact nb (sm.free g4) e
    ·exact hb (sm.free (g5 b e))
   ·cases e:S1.F b with
    |none=>rfl
    |some o=>exact absurd (sm.free (g6 b o e)) hb
  have tot:(PyFlat.told (Fs.plays Sx03.none_ xs0)).length≤1000200:=by
   rw[O7,Jo]
   omega
  refine⟨fun m σ H'=>∃xs s t S out v4 v5 v6,σ=[some (.ref a),some (.ref l),some (.ref rd),some (.ref an),v4,v5,v6]∧xs.length=m∧t+xs.length≤200∧LAt aj aD aH H' l s t S∧Fs.Wf s∧Fs.Legal s xs∧dM H' pt∧gG K au H' rd a ns (Fs.flat xs)∧Out S l rd∧Out S l an∧
   H' an=some (.lst (iv out))∧aL [pt] H H'∧(∀b,H b≠none→Out S l b)∧PyFlat.told (Fs.plays Sx03.none_ xs0)=out++PyFlat.told (Fs.plays s xs),?_,?_⟩
  ·refine⟨xs0.length,xs0,Sx03.none_,0,S1,[],none,none,none,rfl,rfl,by omega,L2.same s3,Fs.X4,aav,TabOk.same TA ((s1.trans s2).trans s3),?_,ord,oan,aA,aL.same ((s1.trans s2).trans s3),o0,rfl⟩
   rw[hns] at hR2⊢
   exact hR2.same s3
  ·rintro m σ H3 ⟨xs,s0,t,S,out,v4,v5,v6,rfl,hm,ht,L,hwf,aav,T3,hR,hor,hoa,hA,hH,ho,htot⟩
   obtain⟨dx3,p3,h3⟩:=hR.at
   refine⟨_,rfl,rd,_,_,rfl,h3,CK,rd,a,ns,_,rfl,hR,fun H4 hH4=>⟨_,_,rfl,rfl,_,rfl,?_⟩⟩
   have L4:=L.same hH4
   have hR4:=hR.same hH4
   have hA4:=hH4 _ _ hA
   have h04:=hH.trans (aL.same hH4)
   have T4:dM H4 pt:=TabOk.same T3 hH4
   cases xs with
   |nil=>
    refine cA ⟨_,rfl,?_⟩
    have e:PyFlat.told (Fs.plays Sx03.none_ xs0)=out:=by
     rw[htot];exact List.append_nil out
    rw[←e] at hA4
    exact k H4 an h04 T4 hA4
   |cons x xs=>
    obtain⟨hof,hask,hpart,abB⟩:=aav
    refine gA (fun _=>?_) (fun c=>absurd (decide_eq_true (show(0:Int)<((Fs.flat (x::xs)).length:Nat) by
     show(0:Int)<((((callOut x).headD 0)::_:List Int).length:Nat)
     rw[List.length_cons]
     omega)) c)
    refine⟨fun σ' H'=>∃xs s t S out v4 v5 v6,σ'=[some (.ref a),some (.ref l),some (.ref rd),some (.ref an),v4,v5,v6]∧xs.length+1=m∧t+xs.length≤200∧LAt aj aD aH H' l s t S∧Fs.Wf s∧Fs.Legal s xs∧dM H' pt∧gG K au H' rd a ns (Fs.flat xs)∧Out S l rd∧Out S l an∧
     H' an=some (.lst (iv out))∧aL [pt] H H'∧(∀b,H b≠none→Out S l b)∧PyFlat.told (Fs.plays Sx03.none_ xs0)=out++PyFlat.told (Fs.plays s xs),?_,?_⟩
    ·rintro σ' H' ⟨xs,s,t,S,out,v4,v5,v6,e1,e2,e3⟩
     exact⟨xs.length,by omega,xs,s,t,S,out,v4,v5,v6,e1,rfl,e3⟩
    ·obtain⟨dx4,p4,h4⟩:=hR4.at
     refine⟨_,rfl,rd,_,_,rfl,h4,dN,rd,a,ns,(callOut x).headD 0,_,rfl,hR4,fun H5 k5 hR5=>?_⟩
     obtain⟨dx5,p5,h5⟩:=hR5.at
     refine⟨_,rfl,rd,_,_,rfl,h5,cG,rd,a,ns,(callOut x).tail,0::Fs.flat xs,rfl,hR5,fun H6 q6 k6 hR6 hq5 hq6=>?_⟩
     intro td dtd ht0 hdt0 ndt
     have sm3:=jB (C:=au) ht0 hdt0 ndt
     refine⟨td,dtd,q6,(callOut x).tail,rfl,aA,SqL.of (sm3 _ _ hq6),fun H7 k7 hT7=>⟨rfl,?_⟩⟩
     have s67:Same H6 H7:=fun b o e=>k7 b o (sm3 b o e) (by simpa using aG e ht0)
     have hR7:=hR6.same s67
     obtain⟨dx7,p7,h7⟩:=hR7.at
     refine⟨_,rfl,rd,_,_,rfl,h7,dN,rd,a,ns,0,Fs.flat xs,rfl,hR7,fun H8 k8 hR8=>?_⟩
     have k48:aL [rd] H4 H8:=((k5.trans k6).trans (aL.same s67)).trans k8
     have L8:=L4.keep k48 (yP hor)
     have ntd:td≠rd:=fun e=>hR6.ne (by rw[←e];exact ht0)
     have hT8:gG K au H8 td q6 (callOut x).tail (callOut x).tail:=by
      obtain⟨dx,p,g1,g2,g3,g4⟩:=hT7
      exact⟨dx,p,k8 _ _ g1 (by simpa using ntd),g2.RP k8 h7,g3,g4⟩
     have ht4:H4 td=none:=by
      refine rW (k5.trans k6) ht0 ntd
     have hA8:H8 an=some (.lst (iv out)):=k48 _ _ hA4 (by simpa using nar)
     have otd:Out S l td:=L4.out ht4
     have T8:dM H8 pt:=dM.keep T4 k48 fun b hb u e=>by
      rw[List.mem_singleton.mp hb,h4] at e
      cases e
      exact⟨fun ps q=>(nomatch q),fun φ q=>(nomatch q)⟩
     have npt: ∀{b:Addr},H b=none→b≠pt:=fun{b} hb e=>by rw[e,hpt] at hb;cases hb
     have nan:H an=none:=(s1.trans s2).free han
     have nrd:H rd=none:=s1.free hr0
     have ntp:td≠pt:=fun e=>by
      obtain⟨ps,z⟩:=dM.ne T4
      rw[e,z] at ht4
      cases ht4
     refine⟨_,rfl,_,rfl,_,rfl,l,td,s0,t,S,x,rfl,⟨L8,hwf,by omega,⟨q6,_,hT8⟩,otd⟩,hof,T8,ho pt (by rw[hpt];exact fun q=>nomatch q),fun H9 S9 q9 L9 G9 k9 T9 hq8 hq9=>?_⟩
     have hH8:aL [pt] H H8:=fun b o e nb=>k48 b o (h04 b o e nb) (by
      intro m
      rw[List.mem_singleton.mp m,nrd] at e
      cases e)
     have n9: ∀{b:Addr},b≠pt→b≠td→Out S l b→b∉pt::td::S.own l:=fun{b} n1 n o m=>(List.mem_cons.mp m).elim n1 fun m=>(List.mem_cons.mp m).elim n o.1
     have tdn:H8 td≠none:=hT8.ne
     have ntda:an≠td:=aG hA4 ht4
     have hH9:aL [pt] H H9:=fun b o e nb=>k9 b o (hH8 b o e nb) (n9 (by simpa using nb) (fun q=>by
      have z:=h04 b o e nb
      rw[q,ht4] at z
      cases z) (ho b (by rw[e];exact fun q=>nomatch q)))
     have hR9:gG K au H9 rd a ns (Fs.flat xs):=by
      obtain⟨dx,p,g1,g2,g3,g4⟩:=hR8
      exact⟨dx,p,k9 _ _ g1 (n9 (npt nrd) (Ne.symm ntd) hor),Y8 hS hH9 TA,g3,g4⟩
     have hA9:H9 an=some (.lst (iv out)):=k9 _ _ hA8 (n9 (npt nan) ntda hoa)
     have hoa9:Out S9 l an:=G9 an hoa (by rw[hA8];exact fun q=>nomatch q)
     have hor9:Out S9 l rd:=G9 rd hor hR8.ne
     have ho9: ∀b,H b≠none→Out S9 l b:=fun b hb=>G9 b (ho b hb) (by
      cases e:H b with
      |none=>exact absurd e hb
      |some o=>
       by_cases qp:b=pt
       ·obtain⟨ps,z⟩:=dM.ne T8
        rw[qp,z];exact fun q=>nomatch q
       ·rw[hH8 b o e (by simpa using qp)];exact fun q=>nomatch q)
     have Y9:PyFlat.told (Fs.plays Sx03.none_ xs0)=(out++[((Fs.jZ (Sx03.step s0 x).2).length:Int)]++Fs.jZ (Sx03.step s0 x).2)++PyFlat.told (Fs.plays (Sx03.step s0 x).1 xs):=by
      rw[htot]
      show out++PyFlat.told (Fs.jZ (Sx03.step s0 x).2::Fs.plays (Sx03.step s0 x).1 xs)=_
      rw[Jm,List.append_assoc,List.append_assoc]
      rfl
     have hlen:(out++[((Fs.jZ (Sx03.step s0 x).2).length:Int)]++Fs.jZ (Sx03.step s0 x).2).length≤1000200:=by
      have:=congrArg List.length Y9
      rw[List.length_append] at this
      omega
     rw[List.length_append,List.length_append,List.length_singleton] at hlen
     have nq9:q9≠an:=Ne.symm (aG hA8 hq8)
     refine⟨_,rfl,.inl ⟨rfl,_,SqL.of hA9⟩,_,rfl,q9,_,rfl,.inl (SqL.of hq9),an,_,_,rfl,rfl,hA9,Nat.lt_of_lt_of_le (show(iv out).length<1000201 by rw[List.length_map];omega) (by decide),?_⟩
     have e1:iv out++[V.int ((iv (Fs.jZ (Sx03.step s0 x).2)).length:Nat)]=iv (out++[((Fs.jZ (Sx03.step s0 x).2).length:Int)]):=by
      show _=(out++[_]).map V.int
      rw[List.map_append,List.length_map]
      rfl
     refine⟨_,rfl,.inl ⟨rfl,_,SqL.of aA⟩,_,rfl,an,q9,_,_,rfl,rfl,aA,(by rw[aJ nq9];exact hq9),?_,?_⟩
     ·refine Nat.le_trans (show _≤1000200 from ?_) (show 1000200≤sizeLine by decide)
      rw[e1,List.length_map,List.length_map,List.length_append,List.length_singleton]
      omega
     ·have kl:aL [an] H9 (upd (upd H9 an (.lst (iv out++[V.int ((iv (Fs.jZ (Sx03.step s0 x).2)).length:Nat)]))) an (.lst ((iv out++[V.int ((iv (Fs.jZ (Sx03.step s0 x).2)).length:Nat)])++iv (Fs.jZ (Sx03.step s0 x).2)))):=(aL.upd (by simp)).trans (aL.upd (by simp))
      have kH:aL [pt] H _:=fun b o e nb=>kl b o (hH9 b o e nb) (by simpa using aG e nan)
      refine⟨xs,(Sx03.step s0 x).1,t+1,S9,_,_,_,_,rfl,hm,by rw[List.length_cons] at ht;omega,L9.keep kl (yP hoa9),Fs.X5 hwf x,abB,dM.keep T9 kl fun b hb u e=>by
       rw[List.mem_singleton.mp hb,hA9] at e
       cases e
       exact⟨fun ps q=>(nomatch q),fun φ q=>(nomatch q)⟩,?_,hor9,hoa9,?_,kH,ho9,Y9⟩
      ·obtain⟨dx,p,g1,g2,g3,g4⟩:=hR9
       exact⟨dx,p,kl _ _ g1 (by simpa using Ne.symm nar),Y8 hS kH TA,g3,g4⟩
      ·rw[aA,e1]
       exact congrArg (fun z=>some (HO.lst z)) (List.map_append (f:=V.int)).symm
end
theorem Xc{K:PySem.W.Frag}{h base:Heap}{mg:Str→Option Value}{nm:Str}{f ft ct pt:Addr}{ot:Obj}{fdt:FuncData}(X:K.In h)(hm:mg nm=some (.ref f))(t1:mg nm=some (.ref ft))(t2:h.get? ft=some ot)(t3:ot.data= .func fdt)(t4:fdt.code= .ref ct)
  (hc:PySem.W.CodeHd base ct pt):TabOf K base f pt:=fun o fd lk hd=>by
 rw[hm] at t1
 cases t1
 have e:=X _ _ lk
 rw[t2] at e
 cases e
 rw[t3] at hd
 cases hd
 exact⟨ct,t4,hc⟩
def FnK(K:PySem.W.Frag)(f:Addr)(x qual:Str)(st:Stmt):Prop:=∃fd,Fun K x qual st f fd∧PySem.W.keepIn K (.ref f)=true
theorem aaw{K:PySem.W.Frag}{x qual:Str}{st:Stmt}{f:Addr}{oc:Value}{od an:Option Addr}{osl:Array (Option Value)}{kV doc pm cdv ct:Value}
  (l:K.lookup f=some ⟨oc,od,.func (PySem.W.fnOf x qual (qQ st) (mG st) (aO st) .none kV doc pm an cdv ct),osl⟩) (c:PySem.W.codeIn K cdv qual=true) (k:PySem.W.keepIn K (.ref f)=true):FnK K f x qual st:=⟨_,VH l c k,k⟩
def UL(K:PySem.W.Frag)(c:Addr):Prop:=Cls K c∧PySem.W.makesIn K c=true∧PySem.W.keepIn K (.ref c)=true
theorem YC{K:PySem.W.Frag}{c:Addr}(h1:PySem.W.plainGet K c Str.empty=true)(h2:PySem.W.hasDictIn K c=true)(h3:PySem.W.plainOver K c=true)(h4:PySem.W.findIn K (.ref c) "__setattr__"=some (some (.builtin "object.__setattr__")))(h5:PySem.W.makesIn K c=true)
  (h6:PySem.W.keepIn K (.ref c)=true):UL K c:=⟨⟨h1,h2,h3,h4⟩,h5,h6⟩
theorem qG{fd:FuncData}{a:Str}(h: ∀u,bindArgs fd ⟨[u],[]⟩=pure [(a,u)])(us:List Value)(hl:us.length=[a].length):bindArgs fd ⟨us,[]⟩=pure ([a].zip us):=match us,hl with|[u],_=>h u
theorem gn{fd:FuncData}{a b:Str}(h: ∀u v,bindArgs fd ⟨[u,v],[]⟩=pure [(a,u),(b,v)])(us:List Value)(hl:us.length=[a,b].length):bindArgs fd ⟨us,[]⟩=pure ([a,b].zip us):=match us,hl with|[u,v],_=>h u v
theorem Lr{fd:FuncData}{a b c:Str}(h: ∀u v x,bindArgs fd ⟨[u,v,x],[]⟩=pure [(a,u),(b,v),(c,x)])(us:List Value)(hl:us.length=[a,b,c].length):bindArgs fd ⟨us,[]⟩=pure ([a,b,c].zip us):=match us,hl with|[u,v,x],_=>h u v x
theorem aax{fd:FuncData}{a b c d:Str}(h: ∀u v x y,bindArgs fd ⟨[u,v,x,y],[]⟩=pure [(a,u),(b,v),(c,x),(d,y)])(us:List Value)(hl:us.length=[a,b,c,d].length):bindArgs fd ⟨us,[]⟩=pure ([a,b,c,d].zip us):=match us,hl with|[u,v,x,y],_=>h u v x y
theorem bnd5{fd:FuncData}{a b c d e:Str}(h: ∀u v x y z,bindArgs fd ⟨[u,v,x,y,z],[]⟩=pure [(a,u),(b,v),(c,x),(d,y),(e,z)])(us:List Value)(hl:us.length=[a,b,c,d,e].length):bindArgs fd ⟨us,[]⟩=pure ([a,b,c,d,e].zip us):=match us,hl with|[u,v,x,y,z],_=>h u v x y z
open PySem.W
theorem all_mk{P:Program}{w:World}{K:Frag}{h:Heap}{mg:Str→Option Value}{fa ft ct pt aD aK aH au aj f0 f1 f2 f3 f4 f5 f6 f7 f8 f9 f10 f11 f12 f13 f14 f15 f16 f17 f18 f19 f20 f21 f22 f23 f24 f25 f26 f27 f28 f29 f30 f31 f32 f33 f34 f35 f36 f37 f38 f39 f40 f41 f42 f43 f44 f45 f46 f47 f48 f49 f50 f51 f52 f53 f54 f55 f56 f57 f58 f59 f60 f61 f62 f63 f64 f65 f66 f67 f68 f69 f70 f71 f72 f73 f74:Addr}{ot:Obj}{fdt:FuncData}{Za tu wF zf O8 vC BK Jp wG Xd zj qH Jq zm zp zq zu zx zy zA zB Ao Aq Ar Av Aw Ax Ay Az tM tO tQ Ba Bb Bc Bd Bf Bg Bh Bj oM qI wH wI Zb oN Xe Xf zE oO qJ BL wJ zF zG Zc:Tok}
  {od an:Option Addr} {sl:Array (Option Value)} {oc kV dc pm cd ct':Value}
  {Gq:Addr} {Q8:Option Addr} {Q9:Nat} {Ra:Array (Option Value)}
  {tD:Addr} {Cj:Option Addr} {Ck:Nat} {Cm:Array (Option Value)}
  {vD:Addr} {Gs:Option Addr} {Gu:Nat} {Gv:Array (Option Value)}
  {mz:Addr} {vY:Option Addr} {vZ:Nat} {wg:Array (Option Value)}
  {vG:Addr} {Gw:Option Addr} {Gx:Nat} {Gy:Array (Option Value)}
  {Jr:Addr} {UW:Option Addr} {U0:Nat} {U3:Array (Option Value)}
  {Gz:Addr} {Rb:Option Addr} {Rc:Nat} {Rf:Array (Option Value)}
  (X:K.In h) (G:h.Ns mainGlobals mg) (hfa:mg "answers"=some (.ref fa)) (t1:mg "list_weakest_first"=some (.ref ft)) (t2:h.get? ft=some ot) (t3:ot.data= .func fdt) (t4:fdt.code= .ref ct)
  (YD:nsIn K mainGlobals "Rule"=some (some (.ref aD)))
  (U4:nsIn K mainGlobals "Origin"=some (some (.ref aK)))
  (YF:nsIn K mainGlobals "Word"=some (some (.ref aH)))
  (U5:nsIn K mainGlobals "Reader"=some (some (.ref au)))
  (O9:nsIn K mainGlobals "Language"=some (some (.ref aj)))
  (a0:nsIn K mainGlobals "count_cells"=some (some (.ref f0)))
  (l0:FnK K f0 "count_cells" "count_cells" oU)
  (a1:nsIn K mainGlobals "are_sizes"=some (some (.ref f1)))
  (l1:FnK K f1 "are_sizes" "are_sizes" uz)
  (a2:nsIn K mainGlobals "is_cell"=some (some (.ref f2)))
  (l2:FnK K f2 "is_cell" "is_cell" zW)
  (a3:nsIn K mainGlobals "is_condition"=some (some (.ref f3)))
  (l3:FnK K f3 "is_condition" "is_condition" mZ)
  (a4:nsIn K mainGlobals "number_cell"=some (some (.ref f4)))
  (l4:FnK K f4 "number_cell" "number_cell" oV)
  (a5:nsIn K mainGlobals "list_cells"=some (some (.ref f5)))
  (l5:FnK K f5 "list_cells" "list_cells" qT)
  (a6:nsIn K mainGlobals "meets"=some (some (.ref f6)))
  (l6:FnK K f6 "meets" "meets" JZ)
  (a7:nsIn K mainGlobals "count_fixed"=some (some (.ref f7)))
  (l7:FnK K f7 "count_fixed" "count_fixed" oW)
  (a8:nsIn K mainGlobals "put_values"=some (some (.ref f8)))
  (l8:FnK K f8 "put_values" "put_values" qU)
  (a9:nsIn K mainGlobals "list_followed"=some (some (.ref f9)))
  (l9:FnK K f9 "list_followed" "list_followed" lN)
  (a10:nsIn K mainGlobals "list_weakest_first"=some (some (.ref f10)))
  (l10:FnK K f10 "list_weakest_first" "list_weakest_first" fD)
  (a11:nsIn K mainGlobals "rank"=some (some (.ref f11)))
  (l11:FnK K f11 "rank" "rank" Qt)
  (a12:nsIn K mainGlobals "find_parts"=some (some (.ref f12)))
  (l12:FnK K f12 "find_parts" "find_parts" qW)
  (a13:nsIn K mainGlobals "list_differences"=some (some (.ref f13)))
  (l13:FnK K f13 "list_differences" "list_differences" jj)
  (a14:nsIn K mainGlobals "find_difference"=some (some (.ref f14)))
  (l14:FnK K f14 "find_difference" "find_difference" jL)
  (a15:nsIn K mainGlobals "tells_apart"=some (some (.ref f15)))
  (l15:FnK K f15 "tells_apart" "tells_apart" oY)
  (a16:nsIn K mainGlobals "find_next_choice"=some (some (.ref f16)))
  (l16:FnK K f16 "find_next_choice" "find_next_choice" jk)
  (a17:nsIn K mainGlobals "refuse_cell"=some (some (.ref f17)))
  (l17:FnK K f17 "refuse_cell" "refuse_cell" oZ)
  (a18:nsIn K mainGlobals "put_behind"=some (some (.ref f18)))
  (l18:FnK K f18 "put_behind" "put_behind" qX)
  (a19:nsIn K mainGlobals "put_ahead"=some (some (.ref f19)))
  (l19:FnK K f19 "put_ahead" "put_ahead" uD)
  (a20:nsIn K mainGlobals "change_end"=some (some (.ref f20)))
  (l20:FnK K f20 "change_end" "change_end" qY)
  (a21:nsIn K mainGlobals "change_last_of"=some (some (.ref f21)))
  (l21:FnK K f21 "change_last_of" "change_last_of" j7)
  (a22:nsIn K mainGlobals "repeat_start"=some (some (.ref f22)))
  (l22:FnK K f22 "repeat_start" "repeat_start" m7)
  (a23:nsIn K mainGlobals "make_form"=some (some (.ref f23)))
  (l23:FnK K f23 "make_form" "make_form" uE)
  (a24:nsIn K mainGlobals "find_stem"=some (some (.ref f24)))
  (l24:FnK K f24 "find_stem" "find_stem" uF)
  (a25:findIn K (.ref aD) "__init__"=some (some (.ref f25)))
  (i25:isFn K (.ref f25)=true)
  (l25:FnK K f25 "__init__" "Rule.__init__" uG)
  (a26:nsIn K mainGlobals "read_rule"=some (some (.ref f26)))
  (l26:FnK K f26 "read_rule" "read_rule" uH)
  (a27:nsIn K mainGlobals "is_sound"=some (some (.ref f27)))
  (l27:FnK K f27 "is_sound" "is_sound" wQ)
  (a28:nsIn K mainGlobals "fits_number"=some (some (.ref f28)))
  (l28:FnK K f28 "fits_number" "fits_number" o7)
  (a29:nsIn K mainGlobals "fit_lists"=some (some (.ref f29)))
  (l29:FnK K f29 "fit_lists" "fit_lists" uJ)
  (a30:nsIn K mainGlobals "find_cells"=some (some (.ref f30)))
  (l30:FnK K f30 "find_cells" "find_cells" qZ)
  (a31:findIn K (.ref aK) "__init__"=some (some (.ref f31)))
  (i31:isFn K (.ref f31)=true)
  (l31:FnK K f31 "__init__" "Origin.__init__" o9)
  (a32:nsIn K mainGlobals "trace"=some (some (.ref f32)))
  (l32:FnK K f32 "trace" "trace" J6)
  (a33:nsIn K mainGlobals "find_standing"=some (some (.ref f33)))
  (l33:FnK K f33 "find_standing" "find_standing" lO)
  (a34:nsIn K mainGlobals "tell_form"=some (some (.ref f34)))
  (l34:FnK K f34 "tell_form" "tell_form" uL)
  (a35:nsIn K mainGlobals "list_standing"=some (some (.ref f35)))
  (l35:FnK K f35 "list_standing" "list_standing" lQ)
  (a36:nsIn K mainGlobals "list_table"=some (some (.ref f36)))
  (l36:FnK K f36 "list_table" "list_table" rm)
  (a37:nsIn K mainGlobals "list_reasons"=some (some (.ref f37)))
  (l37:FnK K f37 "list_reasons" "list_reasons" m8)
  (a38:findIn K (.ref aH) "__init__"=some (some (.ref f38)))
  (i38:isFn K (.ref f38)=true)
  (l38:FnK K f38 "__init__" "Word.__init__" uM)
  (a39:nsIn K mainGlobals "are_stems"=some (some (.ref f39)))
  (l39:FnK K f39 "are_stems" "are_stems" uN)
  (a40:nsIn K mainGlobals "read_odd_form"=some (some (.ref f40)))
  (l40:FnK K f40 "read_odd_form" "read_odd_form" lR)
  (a41:nsIn K mainGlobals "is_odd_form"=some (some (.ref f41)))
  (l41:FnK K f41 "is_odd_form" "is_odd_form" pA)
  (a42:nsIn K mainGlobals "call_form"=some (some (.ref f42)))
  (l42:FnK K f42 "call_form" "call_form" uO)
  (a43:nsIn K mainGlobals "call_table"=some (some (.ref f43)))
  (l43:FnK K f43 "call_table" "call_table" rA)
  (a44:nsIn K mainGlobals "call_why"=some (some (.ref f44)))
  (l44:FnK K f44 "call_why" "call_why" wR)
  (a45:nsIn K mainGlobals "call_alike"=some (some (.ref f45)))
  (l45:FnK K f45 "call_alike" "call_alike" rB)
  (a46:nsIn K mainGlobals "call_find"=some (some (.ref f46)))
  (l46:FnK K f46 "call_find" "call_find" uP)
  (a47:nsIn K mainGlobals "call_may"=some (some (.ref f47)))
  (l47:FnK K f47 "call_may" "call_may" wU)
  (a48:nsIn K mainGlobals "call_parts"=some (some (.ref f48)))
  (l48:FnK K f48 "call_parts" "call_parts" rC)
  (a49:nsIn K mainGlobals "list_followed_by_all"=some (some (.ref f49)))
  (l49:FnK K f49 "list_followed_by_all" "list_followed_by_all" gC)
  (a50:nsIn K mainGlobals "read_pairs"=some (some (.ref f50)))
  (l50:FnK K f50 "read_pairs" "read_pairs" rE)
  (a51:findIn K (.ref au) "__init__"=some (some (.ref f51)))
  (i51:isFn K (.ref f51)=true)
  (l51:FnK K f51 "__init__" "Reader.__init__" pB)
  (a52:findIn K (.ref au) "left"=some (some (.ref f52)))
  (i52:isFn K (.ref f52)=true)
  (l52:FnK K f52 "left" "Reader.left" pC)
  (a53:findIn K (.ref au) "all_taken"=some (some (.ref f53)))
  (i53:isFn K (.ref f53)=true)
  (l53:FnK K f53 "all_taken" "Reader.all_taken" jl)
  (a54:findIn K (.ref au) "take"=some (some (.ref f54)))
  (i54:isFn K (.ref f54)=true)
  (l54:FnK K f54 "take" "Reader.take" pD)
  (a55:findIn K (.ref au) "take_list"=some (some (.ref f55)))
  (i55:isFn K (.ref f55)=true)
  (l55:FnK K f55 "take_list" "Reader.take_list" jm)
  (a56:findIn K (.ref au) "take_lists"=some (some (.ref f56)))
  (i56:isFn K (.ref f56)=true)
  (l56:FnK K f56 "take_lists" "Reader.take_lists" iT)
  (a57:findIn K (.ref aj) "__init__"=some (some (.ref f57)))
  (i57:isFn K (.ref f57)=true)
  (l57:FnK K f57 "__init__" "Language.__init__" lU)
  (a58:findIn K (.ref aj) "begin"=some (some (.ref f58)))
  (i58:isFn K (.ref f58)=true)
  (l58:FnK K f58 "begin" "Language.begin" j9)
  (a59:findIn K (.ref aj) "has_features"=some (some (.ref f59)))
  (i59:isFn K (.ref f59)=true)
  (l59:FnK K f59 "has_features" "Language.has_features" fY)
  (a60:findIn K (.ref aj) "has_group"=some (some (.ref f60)))
  (i60:isFn K (.ref f60)=true)
  (l60:FnK K f60 "has_group" "Language.has_group" ig)
  (a61:findIn K (.ref aj) "has_rule"=some (some (.ref f61)))
  (i61:isFn K (.ref f61)=true)
  (l61:FnK K f61 "has_rule" "Language.has_rule" iU)
  (a62:findIn K (.ref aj) "has_word"=some (some (.ref f62)))
  (i62:isFn K (.ref f62)=true)
  (l62:FnK K f62 "has_word" "Language.has_word" iV)
  (a63:findIn K (.ref aj) "count_all_cells"=some (some (.ref f63)))
  (i63:isFn K (.ref f63)=true)
  (l63:FnK K f63 "count_all_cells" "Language.count_all_cells" eO)
  (a64:findIn K (.ref aj) "line"=some (some (.ref f64)))
  (i64:isFn K (.ref f64)=true)
  (l64:FnK K f64 "line" "Language.line" lV)
  (a65:nsIn K mainGlobals "call_new"=some (some (.ref f65)))
  (l65:FnK K f65 "call_new" "call_new" wV)
  (a66:nsIn K mainGlobals "call_group"=some (some (.ref f66)))
  (l66:FnK K f66 "call_group" "call_group" rF)
  (a67:nsIn K mainGlobals "call_rule"=some (some (.ref f67)))
  (l67:FnK K f67 "call_rule" "call_rule" uT)
  (a68:nsIn K mainGlobals "call_drop"=some (some (.ref f68)))
  (l68:FnK K f68 "call_drop" "call_drop" uU)
  (a69:nsIn K mainGlobals "call_word"=some (some (.ref f69)))
  (l69:FnK K f69 "call_word" "call_word" uV)
  (a70:nsIn K mainGlobals "call_odd"=some (some (.ref f70)))
  (l70:FnK K f70 "call_odd" "call_odd" wW)
  (a71:nsIn K mainGlobals "call_plain"=some (some (.ref f71)))
  (l71:FnK K f71 "call_plain" "call_plain" rH)
  (a72:nsIn K mainGlobals "keep"=some (some (.ref f72)))
  (l72:FnK K f72 "keep" "keep" Qu)
  (a73:nsIn K mainGlobals "answer"=some (some (.ref f73)))
  (l73:FnK K f73 "answer" "answer" uW)
  (a74:nsIn K mainGlobals "answers"=some (some (.ref f74)))
  (l74:K.lookup f74=some ⟨oc,od,.func (fnOf "answers" "answers" (qQ iC) (mG iC) (aO iC) .none kV dc pm an cd ct'),sl⟩)
  (c74:codeIn K cd "answers"=true)
  (k74:keepIn K (.ref f74)=true)
  (Rg:UL K aD)
  (Ls:findIn K (.ref aD) "group"=some none)
  (Lx:findIn K (.ref aD) "block"=some none)
  (Bk:findIn K (.ref aD) "condition"=some none)
  (Ly:findIn K (.ref aD) "doing"=some none)
  (HD:findIn K (.ref aD) "number"=some none)
  (Lz:findIn K (.ref aD) "lists"=some none)
  (LC:findIn K (.ref aD) "cells"=some none)
  (GD:findIn K (.ref aD) "sources"=some none)
  (GJ:UL K aK)
  (Cp:findIn K (.ref aK) "reason"=some none)
  (HF:findIn K (.ref aK) "cell"=some none)
  (GK:findIn K (.ref aK) "taken"=some none)
  (Rh:UL K aH)
  (LK:findIn K (.ref aH) "group"=some none)
  (LQ:findIn K (.ref aH) "stems"=some none)
  (Bl:findIn K (.ref aH) "odd_forms"=some none)
  (GP:UL K au)
  (Bm:findIn K (.ref au) "numbers"=some none)
  (GQ:findIn K (.ref au) "place"=some none)
  (xU:findIn K (.ref au) "ran_short"=some none)
  (xV:UL K aj)
  (Bo:findIn K (.ref aj) "sizes"=some none)
  (xW:findIn K (.ref aj) "parents"=some none)
  (Bp:findIn K (.ref aj) "rules"=some none)
  (Bq:findIn K (.ref aj) "words"=some none)
  (aay:nsIn K mainGlobals "len"=some none)
  (Xg:nsIn K mainGlobals "range"=some none)
  (aaz:nsIn K mainGlobals "zip"=some none)
  (LR:nsIn K mainGlobals "enumerate"=some none)
  (YG:nsIn K mainGlobals "list"=some none)
  (U6:nsIn K mainGlobals "sorted"=some none)
  (aaA:nsIn K mainGlobals "all"=some none)
  (aaB:nsIn K mainGlobals "set"=some none)
  (Ez:nsIn K mainGlobals "ANY"=some (some (.int (-1) Za)))
  (lW:nsIn K mainGlobals "MOST_FEATURES"=some (some (.int (4) tu)))
  (pG:nsIn K mainGlobals "MOST_VALUES"=some (some (.int (8) wF)))
  (rM:nsIn K mainGlobals "MOST_CELLS"=some (some (.int (64) zf)))
  (EY:nsIn K mainGlobals "BLOCKS"=some (some (.int (6) O8)))
  (cX:nsIn K mainGlobals "NOT_AS_ASKED"=some (some (.int (-1) vC)))
  (fK:nsIn K mainGlobals "NOT_THERE"=some (some (.int (-2) BK)))
  (zZ:nsIn K mainGlobals "NOT_ODD"=some (some (.int (-3) Jp)))
  (pH:nsIn K mainGlobals "NO_FEATURES"=some (some (.int (-4) wG)))
  (Qw:nsIn K mainGlobals "FULL"=some (some (.int (-5) Xd)))
  (Pa:nsIn K mainGlobals "CHANGES"=some (some (.ref Gq)))
  (Ri:K.lookup Gq=some ⟨.type "tuple",Q8,.seq #[.ref f18,.ref f19,.ref f20,.ref f21,.ref f22] Q9,Ra⟩)
  (rN:nsIn K mainGlobals "PUT_BEHIND"=some (some (.int (0) zj)))
  (iJ:nsIn K mainGlobals "TAKE_FROM_CELL"=some (some (.int (6) qH)))
  (vM:nsIn K mainGlobals "NO_FORM"=some (some (.int (7) Jq)))
  (Br:nsIn K mainGlobals "FIRST_BLOCKS"=some (some (.ref tD)))
  (Cq:K.lookup tD=some ⟨.type "tuple",Cj,.seq #[.int (2) zm,.int (2) zp,.int (2) zq,.int (2) zu,.int (2) zx,.int (1) zy,.int (0) zA,.int (0) zB] Ck,Cm⟩)
  (Cr:nsIn K mainGlobals "LAST_BLOCKS"=some (some (.ref vD)))
  (GR:K.lookup vD=some ⟨.type "tuple",Gs,.seq #[.int (5) Ao,.int (5) Aq,.int (5) Ar,.int (5) Av,.int (5) Aw,.int (1) Ax,.int (0) Ay,.int (0) Az] Gu,Gv⟩)
  (vH:nsIn K mainGlobals "GREATEST_NUMBERS"=some (some (.ref mz)))
  (wj:K.lookup mz=some ⟨.type "tuple",vY,.seq #[.none,.none,.int (8) tM,.none,.int (8) tO,.int (3) tQ,.none,.none] vZ,wg⟩)
  (Cu:nsIn K mainGlobals "LIST_COUNTS"=some (some (.ref vG)))
  (GX:K.lookup vG=some ⟨.type "tuple",Gw,.seq #[.int (1) Ba,.int (1) Bb,.int (1) Bc,.int (2) Bd,.int (0) Bf,.int (0) Bg,.int (1) Bh,.int (0) Bj] Gx,Gy⟩)
  (jQ:nsIn K mainGlobals "MOST_LIST_BYTES"=some (some (.int (16) oM)))
  (iK:nsIn K mainGlobals "STANDS_NOTHING"=some (some (.int (0) qI)))
  (lA:nsIn K mainGlobals "STANDS_FORM"=some (some (.int (1) wH)))
  (pI:nsIn K mainGlobals "STANDS_RING"=some (some (.int (2) wI)))
  (RZ:nsIn K mainGlobals "ODD"=some (some (.int (0) Zb)))
  (gU:nsIn K mainGlobals "SAID_TO_BE_NONE"=some (some (.int (1) oN)))
  (J9:nsIn K mainGlobals "MADE"=some (some (.int (2) Xe)))
  (Ka:nsIn K mainGlobals "RING"=some (some (.int (3) Xf)))
  (rO:nsIn K mainGlobals "MOST_STEMS"=some (some (.int (4) zE)))
  (jR:nsIn K mainGlobals "MOST_STEM_BYTES"=some (some (.int (32) oO)))
  (kj:nsIn K mainGlobals "MOST_ODD_BYTES"=some (some (.int (64) qJ)))
  (Rj:nsIn K mainGlobals "ASKING"=some (some (.ref Jr)))
  (U7:K.lookup Jr=some ⟨.type "tuple",UW,.seq #[.ref f42,.ref f43,.ref f44,.ref f45,.ref f46,.ref f47,.ref f48] U0,U3⟩)
  (oG:nsIn K mainGlobals "NO_PARENT"=some (some (.int (-1) BL)))
  (pJ:nsIn K mainGlobals "MOST_GROUPS"=some (some (.int (16) wJ)))
  (rP:nsIn K mainGlobals "MOST_RULES"=some (some (.int (200) zF)))
  (rQ:nsIn K mainGlobals "MOST_WORDS"=some (some (.int (64) zG)))
  (Wu:nsIn K mainGlobals "NEW"=some (some (.int (0) Zc)))
  (Pb:nsIn K mainGlobals "TELLING"=some (some (.ref Gz)))
  (Rk:K.lookup Gz=some ⟨.type "tuple",Rb,.seq #[.ref f65,.ref f66,.ref f67,.ref f68,.ref f69,.ref f70,.ref f71] Rc,Rf⟩):
  ∃fd:FuncData,(∀(s:Shared) (us:List Value),us.length=(["calls"]:List Str).length→BindsTo s fd ⟨us,[]⟩ ((["calls"]:List Str).zip us))∧∀base:Heap,K.In base→base.Ns mainGlobals mg→CodeHd base ct pt→uo mg base→bJ P w K mg base CX0 11 fa fd ["calls"] (xR K pt):=by
 have e:=hfa.symm.trans (mg_of X G a74)
 cases e
 have T:Txt K mg aD aK aH au aj:=⟨Rg.1,
  Ls,
  Lx,
  Bk,
  Ly,
  HD,
  Lz,
  LC,
  GD,
  GJ.1,
  Cp,
  HF,
  GK,
  Rh.1,
  LK,
  LQ,
  Bl,
  GP.1,
  Bm,
  GQ,
  xU,
  xV.1,
  Bo,
  xW,
  Bp,
  Bq,
  mg_none_of X G aay,
  mg_none_of X G Xg,
  mg_none_of X G aaz,
  mg_none_of X G LR,
  mg_none_of X G YG,
  mg_none_of X G U6,
  mg_none_of X G aaA,
  mg_none_of X G aaB,
  ⟨Za,mg_of X G Ez⟩,
  ⟨tu,mg_of X G lW⟩,
  ⟨wF,mg_of X G pG⟩,
  ⟨zf,mg_of X G rM⟩,
  ⟨O8,mg_of X G EY⟩,
  ⟨vC,mg_of X G cX⟩,
  ⟨BK,mg_of X G fK⟩,
  ⟨Jp,mg_of X G zZ⟩,
  ⟨wG,mg_of X G pH⟩,
  ⟨Xd,mg_of X G Qw⟩,
  ⟨zj,mg_of X G rN⟩,
  ⟨qH,mg_of X G iJ⟩,
  ⟨Jq,mg_of X G vM⟩,
  GT.of (mg_of X G Br) Cq rfl rfl (by show 8≤sizeLine;decide) (.cons ⟨_,rfl⟩ (.cons ⟨_,rfl⟩ (.cons ⟨_,rfl⟩ (.cons ⟨_,rfl⟩ (.cons ⟨_,rfl⟩ (.cons ⟨_,rfl⟩ (.cons ⟨_,rfl⟩ (.cons ⟨_,rfl⟩ .nil)))))))),
  GT.of (mg_of X G Cr) GR rfl rfl (by show 8≤sizeLine;decide) (.cons ⟨_,rfl⟩ (.cons ⟨_,rfl⟩ (.cons ⟨_,rfl⟩ (.cons ⟨_,rfl⟩ (.cons ⟨_,rfl⟩ (.cons ⟨_,rfl⟩ (.cons ⟨_,rfl⟩ (.cons ⟨_,rfl⟩ .nil)))))))),
  GT.of (mg_of X G vH) wj rfl rfl (by show 8≤sizeLine;decide) (.cons rfl (.cons rfl (.cons ⟨_,rfl⟩ (.cons rfl (.cons ⟨_,rfl⟩ (.cons ⟨_,rfl⟩ (.cons rfl (.cons rfl .nil)))))))),
  GT.of (mg_of X G Cu) GX rfl rfl (by show 8≤sizeLine;decide) (.cons ⟨_,rfl⟩ (.cons ⟨_,rfl⟩ (.cons ⟨_,rfl⟩ (.cons ⟨_,rfl⟩ (.cons ⟨_,rfl⟩ (.cons ⟨_,rfl⟩ (.cons ⟨_,rfl⟩ (.cons ⟨_,rfl⟩ .nil)))))))),
  ⟨oM,mg_of X G jQ⟩,
  ⟨qI,mg_of X G iK⟩,
  ⟨wH,mg_of X G lA⟩,
  ⟨wI,mg_of X G pI⟩,
  ⟨Zb,mg_of X G RZ⟩,
  ⟨oN,mg_of X G gU⟩,
  ⟨Xe,mg_of X G J9⟩,
  ⟨Xf,mg_of X G Ka⟩,
  ⟨zE,mg_of X G rO⟩,
  ⟨oO,mg_of X G jR⟩,
  ⟨qJ,mg_of X G kj⟩,
  ⟨BL,mg_of X G oG⟩,
  ⟨wJ,mg_of X G pJ⟩,
  ⟨zF,mg_of X G rP⟩,
  ⟨zG,mg_of X G rQ⟩,
  ⟨Zc,mg_of X G Wu⟩⟩
 have F74:=VH (st:=iC) l74 c74 k74
 obtain⟨_,F0,k0⟩:=l0
 obtain⟨_,F1,k1⟩:=l1
 obtain⟨_,F2,k2⟩:=l2
 obtain⟨_,F3,k3⟩:=l3
 obtain⟨_,F4,k4⟩:=l4
 obtain⟨_,F5,k5⟩:=l5
 obtain⟨_,F6,k6⟩:=l6
 obtain⟨_,F7,k7⟩:=l7
 obtain⟨_,F8,k8⟩:=l8
 obtain⟨_,F9,k9⟩:=l9
 obtain⟨_,F10,k10⟩:=l10
 obtain⟨_,F11,k11⟩:=l11
 obtain⟨_,F12,k12⟩:=l12
 obtain⟨_,F13,k13⟩:=l13
 obtain⟨_,F14,k14⟩:=l14
 obtain⟨_,F15,k15⟩:=l15
 obtain⟨_,F16,k16⟩:=l16
 obtain⟨_,F17,k17⟩:=l17
 obtain⟨_,F18,k18⟩:=l18
 obtain⟨_,F19,k19⟩:=l19
 obtain⟨_,F20,k20⟩:=l20
 obtain⟨_,F21,k21⟩:=l21
 obtain⟨_,F22,k22⟩:=l22
 obtain⟨_,F23,k23⟩:=l23
 obtain⟨_,F24,k24⟩:=l24
 obtain⟨_,F25,k25⟩:=l25
 obtain⟨_,F26,k26⟩:=l26
 obtain⟨_,F27,k27⟩:=l27
 obtain⟨_,F28,k28⟩:=l28
 obtain⟨_,F29,k29⟩:=l29
 obtain⟨_,F30,k30⟩:=l30
 obtain⟨_,F31,k31⟩:=l31
 obtain⟨_,F32,k32⟩:=l32
 obtain⟨_,F33,k33⟩:=l33
 obtain⟨_,F34,k34⟩:=l34
 obtain⟨_,F35,k35⟩:=l35
 obtain⟨_,F36,k36⟩:=l36
 obtain⟨_,F37,k37⟩:=l37
 obtain⟨_,F38,k38⟩:=l38
 obtain⟨_,F39,k39⟩:=l39
 obtain⟨_,F40,k40⟩:=l40
 obtain⟨_,F41,k41⟩:=l41
 obtain⟨_,F42,k42⟩:=l42
 obtain⟨_,F43,k43⟩:=l43
 obtain⟨_,F44,k44⟩:=l44
 obtain⟨_,F45,k45⟩:=l45
 obtain⟨_,F46,k46⟩:=l46
 obtain⟨_,F47,k47⟩:=l47
 obtain⟨_,F48,k48⟩:=l48
 obtain⟨_,F49,k49⟩:=l49
 obtain⟨_,F50,k50⟩:=l50
 obtain⟨_,F51,k51⟩:=l51
 obtain⟨_,F52,k52⟩:=l52
 obtain⟨_,F53,k53⟩:=l53
 obtain⟨_,F54,k54⟩:=l54
 obtain⟨_,F55,k55⟩:=l55
 obtain⟨_,F56,k56⟩:=l56
 obtain⟨_,F57,k57⟩:=l57
 obtain⟨_,F58,k58⟩:=l58
 obtain⟨_,F59,k59⟩:=l59
 obtain⟨_,F60,k60⟩:=l60
 obtain⟨_,F61,k61⟩:=l61
 obtain⟨_,F62,k62⟩:=l62
 obtain⟨_,F63,k63⟩:=l63
 obtain⟨_,F64,k64⟩:=l64
 obtain⟨_,F65,k65⟩:=l65
 obtain⟨_,F66,k66⟩:=l66
 obtain⟨_,F67,k67⟩:=l67
 obtain⟨_,F68,k68⟩:=l68
 obtain⟨_,F69,k69⟩:=l69
 obtain⟨_,F70,k70⟩:=l70
 obtain⟨_,F71,k71⟩:=l71
 obtain⟨_,F72,k72⟩:=l72
 obtain⟨_,F73,k73⟩:=l73
 refine⟨fnOf "answers" "answers" (qQ iC) (mG iC) (aO iC) .none kV dc pm an cd ct',fun s us hu=>match us,hu with|[_],_=> .of_eq rfl,fun base _ _ hcd BM=>?_⟩
 have Aj:GT K mg "CHANGES" [.ref f18,.ref f19,.ref f20,.ref f21,.ref f22]:=GT.of (mg_of X G Pa) Ri rfl rfl (by show 5≤sizeLine;decide) (.cons rfl (.cons rfl (.cons rfl (.cons rfl (.cons rfl .nil)))))
 have Gn:GT K mg "ASKING" [.ref f42,.ref f43,.ref f44,.ref f45,.ref f46,.ref f47,.ref f48]:=GT.of (mg_of X G Rj) U7 rfl rfl (by show 7≤sizeLine;decide) (.cons rfl (.cons rfl (.cons rfl (.cons rfl (.cons rfl (.cons rfl (.cons rfl .nil)))))))
 have qF:GT K mg "TELLING" [.ref f65,.ref f66,.ref f67,.ref f68,.ref f69,.ref f70,.ref f71]:=GT.of (mg_of X G Pb) Rk rfl rfl (by show 7≤sizeLine;decide) (.cons rfl (.cons rfl (.cons rfl (.cons rfl (.cons rfl (.cons rfl (.cons rfl .nil)))))))
 have TB:TabOf K base f10 pt:=Xc X (mg_of X G a10) t1 t2 t3 t4 hcd
 have eN:GM P w K mg base aj "begin" 1 ["self","sizes"] (CN aj):=⟨f58,_,yM F58 T,F58.binds fun _ _ _ _ _ _=>gn fun _ _=>rfl,T.aR,⟨a58,i58,k58⟩⟩
 have xT:GC P w K mg base "Language" aj 2 ["self"] (Ko aj aD aH):=⟨f57,_,z8 F57 T eN,F57.binds fun _ _ _ _ _ _=>qG fun _=>rfl,⟨xV.2.1,a57,i57,xV.2.2⟩,mg_of X G O9⟩
 have zc:GC P w K mg base "Reader" au 1 ["self","numbers"] (Kl K au):=⟨f51,_,Fg F51 T,F51.binds fun _ _ _ _ _ _=>gn fun _ _=>rfl,⟨GP.2.1,a51,i51,GP.2.2⟩,mg_of X G U5⟩
 have cC:GM P w K mg base au "left" 1 ["self"] (z6 K au):=⟨f52,_,Fi F52 T,F52.binds fun _ _ _ _ _ _=>qG fun _=>rfl,T.cM,⟨a52,i52,k52⟩⟩
 have aN:GM P w K mg base au "take" 2 ["self"] (gD K au):=⟨f54,_,Fj F54 T cC,F54.binds fun _ _ _ _ _ _=>qG fun _=>rfl,T.cM,⟨a54,i54,k54⟩⟩
 have aM:GM P w K mg base au "take_list" 3 ["self"] (cQ K au):=⟨f55,_,vU F55 T cC aN,F55.binds fun _ _ _ _ _ _=>qG fun _=>rfl,T.cM,⟨a55,i55,k55⟩⟩
 have gj:GM P w K mg base aj "has_features" 1 ["self"] (wZ aj aD aH):=⟨f59,_,pL F59 T,F59.binds fun _ _ _ _ _ _=>qG fun _=>rfl,T.aR,⟨a59,i59,k59⟩⟩
 have dI:GF P w K mg base "count_cells" 1 ["sizes"] (yI K):=⟨f0,_,Fd F0 T,F0.binds fun _ _ _ _ _ _=>qG fun _=>rfl,mg_of X G a0,k0⟩
 have vg:GF P w K mg base "are_sizes" 2 ["sizes"] (Kc K):=⟨f1,_,Kd F1 T dI,F1.binds fun _ _ _ _ _ _=>qG fun _=>rfl,mg_of X G a1,k1⟩
 have bN:GM P w K mg base aj "has_group" 1 ["self","group"] (nH aj aD aH):=⟨f60,_,tH F60 T,F60.binds fun _ _ _ _ _ _=>gn fun _ _=>rfl,T.aR,⟨a60,i60,k60⟩⟩
 have rZ:GF P w K mg base "keep" 1 ["kept","thing","most"] (z9):=⟨f72,_,Yk F72 T,F72.binds fun _ _ _ _ _ _=>Lr fun _ _ _=>rfl,mg_of X G a72,k72⟩
 have jq:GM P w K mg base au "all_taken" 2 ["self"] (nu K au):=⟨f53,_,vR F53 T cC,F53.binds fun _ _ _ _ _ _=>qG fun _=>rfl,T.cM,⟨a53,i53,k53⟩⟩
 have QC:GC P w K mg base "Rule" aD 1 ["self","group","block","condition","doing"] (Fq aD):=⟨f25,_,Kr F25 T,F25.binds fun _ _ _ _ _ _=>bnd5 fun _ _ _ _ _=>rfl,⟨Rg.2.1,a25,i25,Rg.2.2⟩,mg_of X G YD⟩
 have vh:GF P w K mg base "read_rule" 4 ["group","block","told"] (xr K au aD):=⟨f26,_,Kz F26 T aN aM jq QC,F26.binds fun _ _ _ _ _ _=>Lr fun _ _ _=>rfl,mg_of X G a26,k26⟩
 have cY:GF P w K mg base "is_condition" 1 ["sizes","values"] (lG K):=⟨f3,_,BZ F3 T,F3.binds fun _ _ _ _ _ _=>gn fun _ _=>rfl,mg_of X G a3,k3⟩
 have pO:GF P w K mg base "fits_number" 1 ["rule"] (rY aD):=⟨f28,_,Fw F28 T,F28.binds fun _ _ _ _ _ _=>qG fun _=>rfl,mg_of X G a28,k28⟩
 have u6:GF P w K mg base "fit_lists" 2 ["sizes","rule"] (xg K aD):=⟨f29,_,Kw F29 T cY,F29.binds fun _ _ _ _ _ _=>gn fun _ _=>rfl,mg_of X G a29,k29⟩
 have xH:GF P w K mg base "is_sound" 3 ["sizes","rule"] (Ky K aD):=⟨f27,_,N6 F27 T cY pO u6,F27.binds fun _ _ _ _ _ _=>gn fun _ _=>rfl,mg_of X G a27,k27⟩
 have su:GF P w K mg base "list_cells" 1 ["sizes"] (vd K):=⟨f5,_,Hj F5 T,F5.binds fun _ _ _ _ _ _=>qG fun _=>rfl,mg_of X G a5,k5⟩
 have KJ:GF P w K mg base "meets" 1 ["values","condition"] (KC K):=⟨f6,_,WK F6 T,F6.binds fun _ _ _ _ _ _=>gn fun _ _=>rfl,mg_of X G a6,k6⟩
 have bH:GF P w K mg base "number_cell" 1 ["sizes","values"] (jT K):=⟨f4,_,Fe F4 T,F4.binds fun _ _ _ _ _ _=>gn fun _ _=>rfl,mg_of X G a4,k4⟩
 have sE:GF P w K mg base "put_values" 1 ["values","told"] (WL K):=⟨f8,_,Hl F8 T,F8.binds fun _ _ _ _ _ _=>gn fun _ _=>rfl,mg_of X G a8,k8⟩
 have sG:GF P w K mg base "find_cells" 2 ["sizes","rule"] (vf K aD):=⟨f30,_,Ho F30 T su KJ bH sE,F30.binds fun _ _ _ _ _ _=>gn fun _ _=>rfl,mg_of X G a30,k30⟩
 have iW:GM P w K mg base aj "has_rule" 1 ["self","rule"] (z7 aj aD aH):=⟨f61,_,u0 F61 T,F61.binds fun _ _ _ _ _ _=>gn fun _ _=>rfl,T.aR,⟨a61,i61,k61⟩⟩
 have bQ:GM P w K mg base au "take_lists" 4 ["self"] (lH K au):=⟨f56,_,uY F56 T aN aM,F56.binds fun _ _ _ _ _ _=>qG fun _=>rfl,T.cM,⟨a56,i56,k56⟩⟩
 have fL:GF P w K mg base "are_stems" 1 ["stems"] (yO):=⟨f39,_,Ku F39 T,F39.binds fun _ _ _ _ _ _=>qG fun _=>rfl,mg_of X G a39,k39⟩
 have sH:GC P w K mg base "Word" aH 1 ["self","group","stems"] (yN aH):=⟨f38,_,Ks F38 T,F38.binds fun _ _ _ _ _ _=>Lr fun _ _ _=>rfl,⟨Rh.2.1,a38,i38,Rh.2.2⟩,mg_of X G YF⟩
 have lX:GF P w K mg base "read_odd_form" 4 ["told"] (Aa K au):=⟨f40,_,Ab F40 T aN aM,F40.binds fun _ _ _ _ _ _=>qG fun _=>rfl,mg_of X G a40,k40⟩
 have bR:GM P w K mg base aj "has_word" 1 ["self","word"] (qw aj aD aH):=⟨f62,_,u5 F62 T,F62.binds fun _ _ _ _ _ _=>gn fun _ _=>rfl,T.aR,⟨a62,i62,k62⟩⟩
 have mU:GF P w K mg base "is_cell" 2 ["sizes","values"] (Kf K):=⟨f2,_,Qy F2 T cY,F2.binds fun _ _ _ _ _ _=>gn fun _ _=>rfl,mg_of X G a2,k2⟩
 have cD:GF P w K mg base "refuse_cell" 3 ["language","word","values"] (nM K aj aD aH):=⟨f17,_,Fy F17 T bR mU,F17.binds fun _ _ _ _ _ _=>Lr fun _ _ _=>rfl,mg_of X G a17,k17⟩
 have pP:GF P w K mg base "is_odd_form" 1 ["form"] (CP K):=⟨f41,_,Fv F41 T,F41.binds fun _ _ _ _ _ _=>qG fun _=>rfl,mg_of X G a41,k41⟩
 have Rm:GV P w K mg base f65 4 ["language","told"] (R6 K au aj aD aH):=⟨_,Ob F65 T aM vg eN dI,F65.binds fun _ _ _ _ _ _=>gn fun _ _=>rfl,k65⟩
 have Ma:GV P w K mg base f66 3 ["language","told"] (CT K au aj aD aH):=⟨_,Hi F66 T aN bN rZ,F66.binds fun _ _ _ _ _ _=>gn fun _ _=>rfl,k66⟩
 have Pg:GV P w K mg base f67 5 ["language","told"] (KN K au aj aD aH):=⟨_,KQ F67 T aN bN vh xH sG rZ,F67.binds fun _ _ _ _ _ _=>gn fun _ _=>rfl,k67⟩
 have Ph:GV P w K mg base f68 3 ["language","told"] (KR K au aj aD aH):=⟨_,KY F68 T aN iW,F68.binds fun _ _ _ _ _ _=>gn fun _ _=>rfl,k68⟩
 have Pj:GV P w K mg base f69 5 ["language","told"] (KZ K au aj aD aH):=⟨_,K4 F69 T aN bQ bN fL sH rZ,F69.binds fun _ _ _ _ _ _=>gn fun _ _=>rfl,k69⟩
 have Rn:GV P w K mg base f70 5 ["language","told"] (R7 K au aj aD aH):=⟨_,Oc F70 T aN aM lX cD pP bH,F70.binds fun _ _ _ _ _ _=>gn fun _ _=>rfl,k70⟩
 have Mf:GV P w K mg base f71 4 ["language","told"] (CV K au aj aD aH):=⟨_,Hq F71 T aN aM cD bH,F71.binds fun _ _ _ _ _ _=>gn fun _ _=>rfl,k71⟩
 have qz:GC P w K mg base "Origin" aK 1 ["self","reason","cell","taken"] (Lf aK):=⟨f31,_,Gf F31 T,F31.binds fun _ _ _ _ _ _=>aax fun _ _ _ _=>rfl,⟨GJ.2.1,a31,i31,GJ.2.2⟩,mg_of X G U4⟩
 have vP:GF P w K mg base "trace" 3 ["language","followed","word","cell"] (CZ aj aD aH aK):=⟨f32,_,W4 F32 T qz,F32.binds fun _ _ _ _ _ _=>aax fun _ _ _ _=>rfl,mg_of X G a32,k32⟩
 have eE:GF P w K mg base "tell_form" 1 ["form"] (Ge):=⟨f34,_,La F34 T,F34.binds fun _ _ _ _ _ _=>qG fun _=>rfl,mg_of X G a34,k34⟩
 have vo:GF P w K mg base "find_stem" 1 ["rules","stems","number"] (QV aj aD aH):=⟨f24,_,K8 F24 T,F24.binds fun _ _ _ _ _ _=>Lr fun _ _ _=>rfl,mg_of X G a24,k24⟩
 have Mg:GV P w K mg base f18 1 ["form","rule"] (iz aD 0):=⟨_,Hr F18 T,F18.binds fun _ _ _ _ _ _=>gn fun _ _=>rfl,k18⟩
 have Pk:GV P w K mg base f19 1 ["form","rule"] (iz aD 1):=⟨_,K7 F19 T,F19.binds fun _ _ _ _ _ _=>gn fun _ _=>rfl,k19⟩
 have Mh:GV P w K mg base f20 1 ["form","rule"] (iz aD 2):=⟨_,Hs F20 T,F20.binds fun _ _ _ _ _ _=>gn fun _ _=>rfl,k20⟩
 have Bs:GV P w K mg base f21 1 ["form","rule"] (iz aD 3):=⟨_,yS F21 T,F21.binds fun _ _ _ _ _ _=>gn fun _ _=>rfl,k21⟩
 have GZ:GV P w K mg base f22 1 ["form","rule"] (iz aD 4):=⟨_,Ce F22 T,F22.binds fun _ _ _ _ _ _=>gn fun _ _=>rfl,k22⟩
 have vp:GF P w K mg base "make_form" 2 ["rules","stems","followed"] (QW aj aD aH):=⟨f23,_,K9 F23 T Aj vo Mg Pk Mh Bs GZ,F23.binds fun _ _ _ _ _ _=>Lr fun _ _ _=>rfl,mg_of X G a23,k23⟩
 have cP:GF P w K mg base "find_standing" 4 ["language","followed","word","cell"] (nR aj aD aH):=⟨f33,_,Ak F33 T vP eE vp,F33.binds fun _ _ _ _ _ _=>aax fun _ _ _ _=>rfl,mg_of X G a33,k33⟩
 have bV:GM P w K mg base aj "count_all_cells" 2 ["self"] (sJ aj aD aH):=⟨f63,_,mO F63 T dI,F63.binds fun _ _ _ _ _ _=>qG fun _=>rfl,T.aR,⟨a63,i63,k63⟩⟩
 have lY:GM P w K mg base aj "line" 1 ["self","group"] (QM aj aD aH):=⟨f64,_,Af F64 T,F64.binds fun _ _ _ _ _ _=>gn fun _ _=>rfl,T.aR,⟨a64,i64,k64⟩⟩
 have pQ:GF P w K mg base "count_fixed" 1 ["condition"] (KD K):=⟨f7,_,Fx F7 T,F7.binds fun _ _ _ _ _ _=>qG fun _=>rfl,mg_of X G a7,k7⟩
 have QT:GF P w K mg base "rank" 2 ["rule","line"] (QS K aD):=⟨f11,_,Ys F11 T pQ,F11.binds fun _ _ _ _ _ _=>gn fun _ _=>rfl,mg_of X G a11,k11⟩
 have iy:GF P w K mg base "list_weakest_first" 6 ["language","group"] (Ag aj aD aH pt):=⟨f10,_,tK F10 T BM TB lY QT,F10.binds fun _ _ _ _ _ _=>gn fun _ _=>rfl,mg_of X G a10,k10⟩
 have bT:GF P w K mg base "list_followed" 7 ["language","group"] (kO aj aD aH pt):=⟨f9,_,Ah F9 T bV iy,F9.binds fun _ _ _ _ _ _=>gn fun _ _=>rfl,mg_of X G a9,k9⟩
 have fu:GF P w K mg base "list_standing" 5 ["language","followed","word"] (oJ aj aD aH):=⟨f35,_,Al F35 T cP,F35.binds fun _ _ _ _ _ _=>Lr fun _ _ _=>rfl,mg_of X G a35,k35⟩
 have d7:GF P w K mg base "list_table" 8 ["language","word"] (yV aj aD aH pt):=⟨f36,_,Hv F36 T fu bT,F36.binds fun _ _ _ _ _ _=>gn fun _ _=>rfl,mg_of X G a36,k36⟩
 have nT:GF P w K mg base "list_reasons" 8 ["language","word","cell"] (Am aj aD aH pt):=⟨f37,_,Ci F37 T vP bT,F37.binds fun _ _ _ _ _ _=>Lr fun _ _ _=>rfl,mg_of X G a37,k37⟩
 have cH:GF P w K mg base "list_followed_by_all" 8 ["language"] (yX aj aD aH pt):=⟨f49,_,qC F49 T bT,F49.binds fun _ _ _ _ _ _=>qG fun _=>rfl,mg_of X G a49,k49⟩
 have sS:GF P w K mg base "read_pairs" 4 ["told"] (Lk K au):=⟨f50,_,Hy F50 T aN aM,F50.binds fun _ _ _ _ _ _=>qG fun _=>rfl,mg_of X G a50,k50⟩
 have jX:GF P w K mg base "find_difference" 1 ["table","other"] (Q5):=⟨f14,_,xO F14 T,F14.binds fun _ _ _ _ _ _=>gn fun _ _=>rfl,mg_of X G a14,k14⟩
 have jt:GF P w K mg base "list_differences" 2 ["tables"] (Ln):=⟨f13,_,vW F13 T jX,F13.binds fun _ _ _ _ _ _=>qG fun _=>rfl,mg_of X G a13,k13⟩
 have pX:GF P w K mg base "tells_apart" 1 ["choice","differences"] (Lp):=⟨f15,_,Gj F15 T,F15.binds fun _ _ _ _ _ _=>gn fun _ _=>rfl,mg_of X G a15,k15⟩
 have ju:GF P w K mg base "find_next_choice" 1 ["choice","cells"] (Q6):=⟨f16,_,vX F16 T,F16.binds fun _ _ _ _ _ _=>gn fun _ _=>rfl,mg_of X G a16,k16⟩
 have sV:GF P w K mg base "find_parts" 3 ["tables","cells"] (vA):=⟨f12,_,Hz F12 T jt pX ju,F12.binds fun _ _ _ _ _ _=>gn fun _ _=>rfl,mg_of X G a12,k12⟩
 have Pn:GV P w K mg base f42 8 ["language","told"] (Lg K au aj aD aH pt):=⟨_,Lh F42 T aN aM cD bH cP bT,F42.binds fun _ _ _ _ _ _=>gn fun _ _=>rfl,k42⟩
 have Mi:GV P w K mg base f43 9 ["language","told"] (yW K au aj aD aH pt):=⟨_,Hw F43 T aN bR d7,F43.binds fun _ _ _ _ _ _=>gn fun _ _=>rfl,k43⟩
 have Ro:GV P w K mg base f44 9 ["language","told"] (Sq K au aj aD aH pt):=⟨_,Ov F44 T aN aM cD bH nT,F44.binds fun _ _ _ _ _ _=>gn fun _ _=>rfl,k44⟩
 have Mj:GV P w K mg base f45 9 ["language","told"] (Dd K au aj aD aH pt):=⟨_,Hx F45 T aN bR d7,F45.binds fun _ _ _ _ _ _=>gn fun _ _=>rfl,k45⟩
 have Pq:GV P w K mg base f46 9 ["language","told"] (Li K au aj aD aH pt):=⟨_,Lj F46 T aM eE cH fu,F46.binds fun _ _ _ _ _ _=>gn fun _ _=>rfl,k46⟩
 have Rp:GV P w K mg base f47 9 ["language","told"] (Sv K au aj aD aH pt):=⟨_,OJ F47 T bQ sS fL mU bH eE cH sH cP,F47.binds fun _ _ _ _ _ _=>gn fun _ _=>rfl,k47⟩
 have Ml:GV P w K mg base f48 9 ["language","told"] (yZ K au aj aD aH pt):=⟨_,HB F48 T bQ fL d7 sH sV bV,F48.binds fun _ _ _ _ _ _=>gn fun _ _=>rfl,k48⟩
 have Gp:GF P w K mg base "answer" 10 ["language","call","told"] (Gm K au aj aD aH pt):=⟨f73,_,UJ F73 T qF Gn gj Rm Ma Pg Ph Pj Rn Mf Pn Mi Ro Mj Pq Rp Ml,F73.binds fun _ _ _ _ _ _=>Lr fun _ _ _=>rfl,mg_of X G a73,k73⟩
 exact Q7 F74 T xT zc cC aN aM Gp
end Ft
namespace PySem.W.Fast
def tw1125323442857452719:=0
def tw11137981401191984705:=0
def tw4084971558038036826:=0
def tw11127763393633890067:=0
def tw659923946955443500:=0
def tw9347247091396157219:=0
def tw13019570577333637801:=0
def tw9148720088946575541:=0
def tw7096941829905844242:=0
def tw13611905019414397238:=0
def tw11497951528240592000:=0
def tw11047988400679144244:=0
def tw1661916549528441818:=0
def tw16466578476700854556:=0
def tw1184803438798304486:=0
def tw863191863729322330:=0
def tw1632752284777335179:=0
def tw14918533551755567136:=0
def tw8361258125363630209:=0
def tw11723594415863690484:=0
def tw1881164774991079508:=0
def tw7863743944301776162:=0
def tw5021497452843008125:=0
def tw11550842394926418780:=0
def tw6867770716888541267:=0
def tw15025715991378186552:=0
def tw17298844053949527370:=0
def tw7804156834234438927:=0
def tw13300538022613820472:=0
def tw17120396012865874089:=0
def tw11002324672046847582:=0
def tw9614959868130067923:=0
def tw6642866217482794181:=0
def tw15222743104791880570:=0
def tw13723237107972793210:=0
def tw17835067538670493927:=0
def tw15883511743526073431:=0
def tw3608094919270217701:=0
def tw6147276350493233465:=0
def tw3768477760781172682:=0
def tw1626011674165574083:=0
def tw16467528243102838779:=0
def tw3273540037546758264:=0
def tw9216340406020246098:=0
def tw9056684108131256624:=0
def tw15867200618039128660:=0
def tw18371821712331462790:=0
def tw15635602527259411189:=0
def tw16098385823632771076:=0
def tw9732031412808943612:=0
def tw5224782945685887877:=0
def tw8496866241498463695:=0
def tw4842202239628240951:=0
def tw1990723672483481860:=0
def tw3794386289625334039:=0
def tw1589795307892608908:=0
def tw5649759550856693292:=0
def tw9173014966352262444:=0
def tw3367669342713550454:=0
def tw5330583985782378388:=0
def tw11693338322856743577:=0
def tw17257079239101942129:=0
def tw11075142512357195265:=0
def tw16806202732382386389:=0
def tw13611843261516406375:=0
def tw6518166910720117687:=0
def tw3479060515216519949:=0
def tw6397029424657911753:=0
def tw11539752425149433731:=0
def tw12470457711183367862:=0
def tw11607841653907736116:=0
def tw1737118117150479021:=0
def tw16384120812643298360:=0
def tw10257182774870591173:=0
def tw17433712680329480298:=0
def tw12217434753748234380:=0
def tw9115592789919721137:=0
def tw6366227152663399568:=0
def tw7698231035487066819:=0
def tw15946138658622496738:=0
def tw1268071372900953235:=0
def tw15717063254495334254:=0
def tw15507149961929523418:=0
def tw13787576581510019542:=0
def tw13681292667963776967:=0
def tw529325039587657451:=0
def tw14299319108457031701:=0
def tw15356068315817820003:=0
def tw7343383514128836386:=0
def tw8585763606471205948:=0
def tw11872098923416062847:=0
def tw2724914421783036393:=0
def tw641721810757655444:=0
def tw18004261407489305121:=0
def tw1957131496664862650:=0
def tw8234114003306806681:=0
def tw15046311660719808979:=0
def tw788943872132324767:=0
def tw4562478059050905697:=0
def tw8149321367830866605:=0
def tw10907467093092830896:=0
def tw5026510569436439287:=0
def tw15401990833423358197:=0
def tw3194970537795662435:=0
def tw11008314738536656066:=0
def tw357308668176920197:=0
def tw7335815407964711506:=0
def tw13046914780559830412:=0
def tw958354648062600738:=0
def tw3293494285870405040:=0
def tw10546883234240363710:=0
def tw3622195366157272040:=0
def tw15782344060415418985:=0
def tw1756859973433014678:=0
def tw5227454951643109925:=0
def tw14342490832396472307:=0
def tw11031213185697401238:=0
def tw12795715144402147733:=0
def tw5715470579246370212:=0
def tw16855519396454701021:=0
def tw14944160022458796842:=0
def tw10680791197068965537:=0
def tw12118022042437754304:=0
def tw1549553640804399561:=0
def tw167681996940647006:=0
def tw16008347578083655121:=0
def tw11481588827167974857:=0
def tw151575755051312328:=0
def tw6958433593269835172:=0
def tw14001507565775146204:=0
def tw6663318356522540055:=0
def tw11501632980836205467:=0
def tw8011229206979426541:=0
def tw12865490377260488730:=0
def tw15211116302697469485:=0
def tw15379355981118242313:=0
def tw12403941069264316381:=0
def tw9912746760566594180:=0
def tw18305915679024995174:=0
def tw639810875635050742:=0
def tw1836071961749395447:=0
def tw7395740662312820972:=0
def tw6606446913431541826:=0
def tw8655731417781166518:=0
def tw8385464711556906135:=0
def tw12227736188276834532:=0
def tw11846281456439218615:=0
def tw6488863618527617461:=0
def tw8818036377445683836:=0
def tw15732875240346338146:=0
def tw12363543837097597427:=0
def tw1087922216855310932:=0
def tw17492838860697662524:=0
def tw17500910548902785680:=0
def tw15740752575800251984:=0
def tw14679245341953327547:=0
def tw2356356234995527890:=0
def tw1653245494428819781:=0
def tw17692099442756609806:=0
def tw10883190187313020062:=0
def tw5554303111864431989:=0
def tw4728606582108536655:=0
def tw969188369477390900:=0
def tw17591705823500105691:=0
def tw11481046396636293730:=0
def tw7216173347698370045:=0
def tw2965352582179982909:=0
def tw9827836675393055940:=0
def tw4064925772871326804:=0
def tw3824575651609436706:=0
def tw17301177418363906970:=0
def tw11137131923477807981:=0
def tw2919063662056034559:=0
def tw3159266288144207814:=0
def tw4144932417965267313:=0
def tw3014778679074229733:=0
def tw262404357264750162:=0
def tw8386003926387780712:=0
def tw13584138735056646880:=0
def tw16265882080848887339:=0
def tw8997751845125747084:=0
def tw6894034212932552601:=0
def tw1426452043418425347:=0
def tw6955034158416817195:=0
def tw3431519948467629787:=0
def tw17107066365283561652:=0
def tw11369982726044791043:=0
def tw13675187245322552827:=0
def tw10663793243591109760:=0
def tw17111273009960899:=0
def tw12061490772087104238:=0
def tw13859935097185389310:=0
def tw6805445412561180318:=0
def tw18273775466337430327:=0
def tw12766371225104730666:=0
def tw3419699097365579685:=0
def tw4206359746998707048:=0
def tw1541726398071291103:=0
def tw8799278266290395466:=0
def tw7635933202496920718:=0
def tw2159535046151962515:=0
def tw11012270416614167822:=0
def tw7173034974805034836:=0
def tw4836448478242518761:=0
def tw11887478267499346795:=0
def tw14159219860042482395:=0
def tw4199438636675665456:=0
def tw11716594462719536746:=0
def tw3528561831635035723:=0
def tw14487059853826883284:=0
def tw17360431172686944489:=0
def tw8906887099362843776:=0
def tw15605646095699040612:=0
def tw3414041365316271652:=0
def tw17588462761559741923:=0
def tw173119749314585038:=0
def tw18100654990995350705:=0
def tw18266209882491577450:=0
def tw15178737381665853269:=0
def tw1916133081651134353:=0
def tw12512044949350546821:=0
def tw16564849228380164818:=0
def tw12985368141366743765:=0
def tw1879669200567843310:=0
def tw7380217252645312387:=0
def tw3023333836432078658:=0
def tw15570239344780656098:=0
def tw285890376583925912:=0
def tw10198449296542620735:=0
def tw1890101753843145163:=0
def tw6957701328464539885:=0
def tw8308756304192480032:=0
def tw2336582968572308124:=0
def tw15554966384429207915:=0
def tw17444545027158995100:=0
def tw18408369426414719084:=0
def tw1602766735735406684:=0
def tw7373314657869513982:=0
def tw13241934045229420937:=0
def tw1246409036361345153:=0
end PySem.W.Fast
open PySem PySem.W PyProof.Rows
set_option maxRecDepth 100000 in
set_option maxHeartbeats 0 in
theorem PySem.Challenge.cw_formtablesyard_s01_answers_holds : PySem.Challenge.rw_formtablesyard_s01_answers.Holds := by
 w_on;k_headS;(case hw=>exact⟨[.list [.int 0,.int 1,.int 0,.int 0]],by decide+kernel,by decide+kernel⟩)
 k_fillS
 refine L2.Qq (r:=PySem.Challenge.rw_formtablesyard_s01_answers) (k:=11) (CX:=L2.CX0) (ps:=["calls"]) (sp:=Ft.xR) "list_weakest_first" (by decide+kernel) rfl rfl ⟨rfl,by decide,by decide⟩ (fun w h Y=>PySem.W.kIn_of Y) (fun w=>rfl) (by decide+kernel) ?F ?S (fun _ _ _ _ z=>z)
 case F=>
  intro w mg fa h Y KX G hmg ft ot fdt ct pt t1 t2 t3 t4
  refine' Ft.all_mk KX G hmg t1 t2 t3 t4 ..
  all_goals try first
   |k_is
   |exact Ft.aaw (by k_is) (by k_is) (by k_is)
   |exact Ft.YC (by k_is) (by k_is) (by k_is) (by k_is) (by k_is) (by k_is)
 case S=>
  intro K H pt xs a hO hwi hask hx
  cases hx with
  |cons h1 h2=>
   cases h2
   cases h1 with
   |lst hs ha=>
    have e:=L2.RM a.1 _ ha
    subst e
    obtain⟨ys,q1,q2,q3,q4,q5⟩:=Fs.Wb (l:=a.1) hask
    refine⟨_,a.1,ys,rfl,hs,q1,q2,q3,q5,.inl hO,fun H' p _ _ hp=> .lst (L2.SqL.of hp) ?_⟩
    show L2.oh K H' _ ((PySx03.answers a.1).map WData.int)
    rw[q4]
    exact L2.RL _
